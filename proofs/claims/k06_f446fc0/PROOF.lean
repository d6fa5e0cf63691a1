import PyProof.Rows.All
import Wide.All
import OpenK.AllK
import Wide.FinOn
import Lean
import PyProof.EqAt
import PyProof.EqKinds
import PyProof.TupleCall
import PyProof.NeKinds
import PyProof.CodeObj
import PyProof.FactsAll.NoneType_1
import PyProof.DictWalks
import KE.KDictOf
import KE.KLam
import KE.KNestM
import KE.KSortKey
import KE.KMinKey
import KE.KDictSum
import PySem.Challenge.RW_shapetree_k06_whole_unfit
set_option Elab.async false
set_option linter.all false
set_option maxRecDepth 100000
namespace L2
open PySem PySem.Spec PyProof.Rows
noncomputable abbrev Key := Sum Int Str
noncomputable def keyIs : Key → Value → Bool
  | .inl k, v => Value.isInt k v
  | .inr x, v => Value.isStrOf x v
noncomputable def keyH (w : World) : Key → Int
  | .inl k => hashInt k
  | .inr x => hashStr w x
theorem keyIs_shape : ∀ {k : Key} {v : Value}, keyIs k v = true → (∃ i t, k = Sum.inl i ∧ v = Value.int i t) ∨ (∃ x t, k = Sum.inr x ∧ v = Value.str x t)
  | .inl i, v, h => by
    obtain ⟨t, e⟩ := Value.isInt_shape (k := i) (v := v) h
    exact .inl ⟨i, t, rfl, e⟩
  | .inr x, v, h => by
    obtain ⟨t, e⟩ := Value.isStrOf_shape (x := x) (v := v) h
    exact .inr ⟨x, t, rfl, e⟩
theorem keyIs_int (i : Int) (t : Tok) : keyIs (.inl i) (.int i t) = true := by simp [keyIs, Value.isInt]
theorem keyIs_str (x : Str) (t : Tok) : keyIs (.inr x) (.str x t) = true := by simp [keyIs, Value.isStrOf]
theorem key_ll (a b : Int) : decide ((Sum.inl a : Key) = Sum.inl b) = (a == b) := by
  by_cases e : a = b
  · subst e; simp
  · have h : ¬ (Sum.inl a : Key) = Sum.inl b := fun q => e (Sum.inl.inj q)
    rw [decide_eq_false h]
    exact (beq_eq_false_iff_ne.mpr e).symm
theorem key_rr (a b : Str) : decide ((Sum.inr a : Key) = Sum.inr b) = decide (a = b) := by
  by_cases e : a = b
  · subst e; simp
  · have h : ¬ (Sum.inr a : Key) = Sum.inr b := fun q => e (Sum.inr.inj q)
    rw [decide_eq_false h, decide_eq_false e]
theorem key_lr (a : Int) (b : Str) : decide ((Sum.inl a : Key) = Sum.inr b) = false := decide_eq_false (fun q => nomatch q)
theorem key_rl (a : Str) (b : Int) : decide ((Sum.inr a : Key) = Sum.inl b) = false := decide_eq_false (fun q => nomatch q)
noncomputable def mixKind (prog : Program) (w : World) : PySem.KeyKind prog w Key where
  is := keyIs
  hash := keyH w
  inj := fun v a b ha hb => by
    rcases keyIs_shape ha with ⟨i, t, rfl, rfl⟩ | ⟨x, t, rfl, rfl⟩
    · rcases keyIs_shape hb with ⟨j, u, rfl, e⟩ | ⟨y, u, rfl, e⟩
      · injection e with e1 _; rw [e1]
      · exact nomatch e
    · rcases keyIs_shape hb with ⟨j, u, rfl, e⟩ | ⟨y, u, rfl, e⟩
      · exact nomatch e
      · injection e with e1 _; rw [e1]
  byValue := fun k v h => by
    rcases keyIs_shape h with ⟨i, t, rfl, rfl⟩ | ⟨x, t, rfl, rfl⟩ <;> rfl
  pyHash := fun hv h => by
    rcases keyIs_shape hv with ⟨i, t, rfl, rfl⟩ | ⟨x, t, rfl, rfl⟩
    · exact wpAny_pyHash_int h
    · exact wpAny_pyHash_str h
  eqBool := fun hu hv h => by
    rcases keyIs_shape hu with ⟨i, t, rfl, rfl⟩ | ⟨x, t, rfl, rfl⟩
    · rcases keyIs_shape hv with ⟨j, u, rfl, rfl⟩ | ⟨y, u, rfl, rfl⟩
      · rw [key_ll] at h; exact wpAny_eqBool_int h
      · rw [key_lr] at h; exact SeqAt.EqAt.int_str i t y u _ _ _ _ h
    · rcases keyIs_shape hv with ⟨j, u, rfl, rfl⟩ | ⟨y, u, rfl, rfl⟩
      · rw [key_rl] at h; exact SeqAt.EqAt.str_int x t j u _ _ _ _ h
      · rw [key_rr] at h; exact wpAny_eqBool_str h
  «strs» := fun k x t v h => by
    rcases keyIs_shape h with ⟨i, u, rfl, e⟩ | ⟨y, u, rfl, e⟩
    · exact nomatch e
    · injection e with e1 _
      subst e1
      cases v <;> rfl
theorem mixKind_int (prog : Program) (w : World) (i : Int) (t : Tok) : (mixKind prog w).is (.inl i) (.int i t) = true := keyIs_int i t
theorem mixKind_str (prog : Program) (w : World) (x : Str) (t : Tok) : (mixKind prog w).is (.inr x) (.str x t) = true := keyIs_str x t
end L2
namespace L2
open PySem PySem.Spec PyProof.Rows
inductive V where
  | non | bl (b : Bool) | int (i : Int) | str (x : Str) | byt (b : Array UInt8) | flt (b : UInt64) | ref (a : Addr) | ty (n : String)
  deriving DecidableEq
noncomputable def RelV : V → Value → Prop
  | .non, u => u = Value.none
  | .bl b, u => u = Value.bool b
  | .int i, u => ∃ t, u = Value.int i t
  | .str x, u => ∃ t, u = Value.str x t
  | .byt b, u => ∃ t, u = Value.bytes b t
  | .flt b, u => ∃ t, u = Value.float b t
  | .ref a, u => u = Value.ref a
  | .ty n, u => u = Value.type n
noncomputable abbrev Vals : List V → List Value → Prop := Paired RelV
theorem Vals.length {xs : List V} {us : List Value} (r : Vals xs us) : xs.length = us.length := Paired.length r
theorem Vals.get : ∀ {xs : List V} {us : List Value} {i : Nat} {x : V}, Vals xs us → xs[i]? = some x → ∃ u, us[i]? = some u ∧ RelV x u
  | _, _, _, _, .nil, e => by simp at e
  | _, _, 0, _, .cons r _, e => by simp at e; subst e; exact ⟨_, rfl, r⟩
  | _, _, i + 1, x, .cons _ t, e => by
    obtain ⟨u, h1, h2⟩ := Vals.get (i := i) (x := x) t (by simpa using e)
    exact ⟨u, by simpa using h1, h2⟩
theorem Vals.append : ∀ {xs ys : List V} {us ws : List Value}, Vals xs us → Vals ys ws → Vals (xs ++ ys) (us ++ ws)
  | _, _, _, _, .nil, s => s
  | _, _, _, _, .cons r t, s => .cons r (Vals.append t s)
theorem Vals.take : ∀ {xs : List V} {us : List Value} (n : Nat), Vals xs us → Vals (xs.take n) (us.take n)
  | _, _, 0, _ => .nil
  | _, _, _ + 1, .nil => .nil
  | _, _, n + 1, .cons r t => .cons r (Vals.take n t)
theorem Vals.drop : ∀ {xs : List V} {us : List Value} (n : Nat), Vals xs us → Vals (xs.drop n) (us.drop n)
  | _, _, 0, r => r
  | _, _, _ + 1, .nil => .nil
  | _, _, n + 1, .cons _ t => Vals.drop n t
noncomputable def RelO : Option V → Option Value → Prop
  | some v, some u => RelV v u
  | none, none => True
  | _, _ => False
noncomputable def KV {κ : Type} : List (κ × V) → List (κ × Value) → Prop := Paired fun (p : κ × V) (q : κ × Value) => p.1 = q.1 ∧ RelV p.2 q.2
noncomputable def kV : Key → V
  | .inl i => .int i
  | .inr x => .str x
inductive HO where
  /-- a list -/
  | lst (xs : List V)
  /-- a tuple (never changes) -/
  | tup (xs : List V)
  /-- a dict whose keys are ints and texts; one whose keys are tuples of ints and texts (the empty one is both) -/
  | dK (kvs : List (Key × V)) | dT (kvs : List (List Key × V))
  /-- a set of ints: its members, its size -/
  | set (S : Int → Bool) (n : Nat)
  /-- an instance of the class at C, its dict at dx, its attributes -/
  | ins (C dx : Addr) (fs : List (Str × V))
  /-- the dict of the instance at x -/
  | own (x : Addr)
  /-- the dict of an exception -/
  | xd (fs : List (Str × V))
  /-- a bound method, f of x -/
  | met (f x : Addr)
  /-- a range object lo, lo + 1, .. below hi -/
  | rng (lo hi : Int)
  /-- a thing that is known to the object (the script; a dict while a loop walks it): read, never written while it is so -/
  | frz (o : Obj) (u : HO)
  /-- a code object's table -/
  | tbl (ps : Array Value)
  /-- any other thing, by what is true of its one object (a def of one's own: SetO a S n := HO.ext fun h => ..) -/
  | ext (φ : Heap → Prop)
noncomputable abbrev Hp := Addr → Option HO
noncomputable def upd (H : Hp) (a : Addr) (o : HO) : Hp := fun b => if b = a then some o else H b
theorem upd_same {H : Hp} {a : Addr} {o : HO} : upd H a o a = some o := by unfold upd; rw [if_pos rfl]
theorem upd_ne {H : Hp} {a b : Addr} {o : HO} (h : b ≠ a) : upd H a o b = H b := by unfold upd; rw [if_neg h]
theorem ne_of {H : Hp} {a b : Addr} {o u : HO} (h : H a = some o) (h' : H b = some u) (d : o ≠ u) : a ≠ b := by
  intro e; subst e; rw [h] at h'; exact d (Option.some.inj h')
theorem ne_of_none {H : Hp} {a b : Addr} {o : HO} (h : H a = some o) (h' : H b = none) : a ≠ b := by
  intro e; subst e; rw [h] at h'; cases h'
section
variable (P : Program) (w : World)
noncomputable def ObjOk (H : Hp) (h : Heap) (a : Addr) : HO → Prop
  | .lst xs => xs.length ≤ sizeLine ∧ ∃ (its : List Value) (n : Nat), Vals xs its ∧ h.get? a = some { cls := .type "list", data := .seq its.toArray n }
  | .tup xs => xs.length ≤ sizeLine ∧ ∃ its : List Value, Vals xs its ∧ IsTup h a its.toArray
  | .dK kvs => kvs.length ≤ sizeLine ∧ (a == sysModules) = false ∧ ∃ vs, KV kvs vs ∧ h.DictOf (mixKind P w) a vs
  | .dT kvs => kvs.length ≤ sizeLine ∧ (a == sysModules) = false ∧ ∃ xs : List (List Key × Addr × Value),
      Paired (fun (p : List Key × V) (q : List Key × Addr × Value) => p.1 = q.1 ∧ H q.2.1 = some (.tup (p.1.map kV)) ∧ RelV p.2 q.2.2) kvs xs ∧
      ∃ o es ep, h.get? a = some o ∧ o.ExactDict ∧ o.data = .dict es ep ∧ es.toList = xs.map (entryOfKey (tupleKind (mixKind P w))) ∧ (xs.map (·.1)).Nodup
  | .set S n => h.SetOf (intKind P w) a S n
  | .ins C dx fs => H dx = some (.own a) ∧ fs.length ≤ 1000 ∧ dx ≠ a ∧ h.get? a = some (PySem.W.instObj C dx) ∧
      ∃ mA, h.Ns1 dx mA ∧ (∀ f, RelO (fs.lookup f) (mA f)) ∧ PySem.Within mA (fs.map (·.1))
  | .own _ => ∃ o, h.get? a = some o
  | .xd fs => ∃ mA, h.Ns1 a mA ∧ ∀ f, RelO (fs.lookup f) (mA f)
  | .rng lo hi => ∃ t u v, h.get? a = some { cls := .type "range", data := .fields #[.int lo t, .int hi u, .int 1 v] }
  | .frz o u => h.get? a = some o ∧ ObjOk H h a u
  | .tbl ps => h.get? a = some { cls := .none, data := .fields ps }
  | .met f x => h.get? a = some (PySem.W.methodObj (.ref f) (.ref x))
  | .ext φ => φ h ∧ (∃ o, h.get? a = some o) ∧ ∀ h1 h2 : Heap, φ h1 → (∀ o, h1.get? a = some o → h2.get? a = some o) → φ h2
noncomputable def HOk (H : Hp) (h : Heap) : Prop := ∀ a o, H a = some o → ObjOk P w H h a o
end
section
variable {P : Program} {w : World} {H H' : Hp} {h h' : Heap} {a : Addr} {o : HO}
theorem ObjOk.lt (x : ObjOk P w H h a o) : a < h.objs.size := by
  cases o with
  | lst xs => obtain ⟨_, _, _, _, e⟩ := x; exact Heap.lt_size e
  | tup xs => obtain ⟨_, _, _, p⟩ := x; exact p.lt
  | dK kvs => obtain ⟨_, _, _, _, o, _, _, e, _⟩ := x; exact Heap.lt_size e
  | dT kvs => obtain ⟨_, _, _, _, o, _, _, e, _⟩ := x; exact Heap.lt_size e
  | set S n => obtain ⟨o, _, _, _, e, _⟩ := x; exact Heap.lt_size e
  | ins C dx fs => obtain ⟨_, _, _, e, _⟩ := x; exact Heap.lt_size e
  | own y => obtain ⟨_, e⟩ := x; exact Heap.lt_size e
  | xd fs => obtain ⟨_, ⟨_, _, _, e, _⟩, _⟩ := x; exact Heap.lt_size e
  | rng lo hi => obtain ⟨_, _, _, e⟩ := x; exact Heap.lt_size e
  | frz ob u => obtain ⟨e, _⟩ := x; exact Heap.lt_size e
  | tbl ps => exact Heap.lt_size (show h.get? a = some _ from x)
  | met f y => exact Heap.lt_size (show h.get? a = some _ from x)
  | ext φ => obtain ⟨_, ⟨_, e⟩, _⟩ := x; exact Heap.lt_size e
theorem Paired.mapP {α β : Type} {F G : α → β → Prop} : ∀ {l₁ : List α} {l₂ : List β}, Paired F l₁ l₂ → (∀ a b, F a b → G a b) → Paired G l₁ l₂
  | _, _, .nil, _ => .nil
  | _, _, .cons r t, f => .cons (f _ _ r) (Paired.mapP t f)
theorem ObjOk.stay (x : ObjOk P w H h a o) (k : ∀ b u, (b = a ∨ H b = some (.own a)) → h.get? b = some u → h'.get? b = some u)
    (ho : ∀ b, H b = some (.own a) → H' b = some (.own a)) (ht : ∀ b xs, H b = some (.tup xs) → H' b = some (.tup xs)) : ObjOk P w H' h' a o := by
  induction o with
  | lst xs => obtain ⟨z, its, n, r, e⟩ := x; exact ⟨z, its, n, r, k _ _ (.inl rfl) e⟩
  | tup xs => obtain ⟨z, its, r, ob, e, c⟩ := x; exact ⟨z, its, r, ob, k _ _ (.inl rfl) e, c⟩
  | dK kvs => obtain ⟨z, y, vs, r, ob, es, ep, e, c⟩ := x; exact ⟨z, y, vs, r, ob, es, ep, k _ _ (.inl rfl) e, c⟩
  | dT kvs =>
    obtain ⟨z, y, xs, r, ob, es, ep, e, c⟩ := x
    exact ⟨z, y, xs, Paired.mapP r fun p q z => ⟨z.1, ht _ _ z.2.1, z.2.2⟩, ob, es, ep, k _ _ (.inl rfl) e, c⟩
  | set S n => obtain ⟨ob, es, ep, t, e, c⟩ := x; exact ⟨ob, es, ep, t, k _ _ (.inl rfl) e, c⟩
  | ins C dx fs =>
    obtain ⟨d, z, ne, e, mA, ⟨od, es, ep, e2, c⟩, r⟩ := x
    exact ⟨ho _ d, z, ne, k _ _ (.inl rfl) e, mA, ⟨od, es, ep, k _ _ (.inr d) e2, c⟩, r⟩
  | own y => obtain ⟨ob, e⟩ := x; exact ⟨ob, k _ _ (.inl rfl) e⟩
  | xd fs => obtain ⟨mA, ⟨od, es, ep, e, c⟩, r⟩ := x; exact ⟨mA, ⟨od, es, ep, k _ _ (.inl rfl) e, c⟩, r⟩
  | rng lo hi => obtain ⟨t, u, v, e⟩ := x; exact ⟨t, u, v, k _ _ (.inl rfl) e⟩
  | frz ob u ih => obtain ⟨e, q⟩ := x; exact ⟨k _ _ (.inl rfl) e, ih q⟩
  | tbl ps =>
    have e : h.get? a = some { cls := .none, data := .fields ps } := x
    show h'.get? a = some { cls := .none, data := .fields ps }
    exact k a _ (.inl rfl) e
  | met f y =>
    have e : h.get? a = some (PySem.W.methodObj (.ref f) (.ref y)) := x
    show h'.get? a = some (PySem.W.methodObj (.ref f) (.ref y))
    exact k a _ (.inl rfl) e
  | ext φ => obtain ⟨p, ⟨o, e⟩, st⟩ := x; exact ⟨st _ _ p fun o q => k _ _ (.inl rfl) q, ⟨o, k _ _ (.inl rfl) e⟩, st⟩
theorem HOk.lt (x : HOk P w H h) (e : H a = some o) : a < h.objs.size := (x a o e).lt
theorem HOk.fresh (x : HOk P w H h) (e : h.objs.size ≤ a) : H a = none := by
  cases q : H a with
  | none => rfl
  | some u => exact absurd (Nat.lt_of_lt_of_le (x.lt q) e) (Nat.lt_irrefl _)
theorem HOk.kept (x : HOk P w H h) (k : ∀ b u, h.get? b = some u → h'.get? b = some u) : HOk P w H h' := fun a o e =>
  (x a o e).stay (fun b u _ q => k b u q) (fun _ q => q) fun _ _ q => q
theorem HOk.laid (x : HOk P w H h) (k : ∀ b u, h.get? b = some u → h'.get? b = some u) (hp : h.objs.size ≤ a) (new : ObjOk P w (upd H a o) h' a o) : HOk P w (upd H a o) h' := fun b u e => by
  have hn := x.fresh hp
  by_cases hb : b = a
  · subst hb; rw [upd_same] at e; cases e; exact new
  · rw [upd_ne hb] at e
    exact (x b u e).stay (fun c v _ q => k c v q) (fun c q => by rw [upd_ne (ne_of_none q hn)]; exact q) fun c xs q => by rw [upd_ne (ne_of_none q hn)]; exact q
end
noncomputable def Rd (H : Hp) (a : Addr) (u : HO) : Prop := H a = some u ∨ ∃ o, H a = some (.frz o u)
theorem Rd.ok {P : Program} {w : World} {H : Hp} {h : Heap} {a : Addr} {u : HO} (r : Rd H a u) (x : HOk P w H h) : ObjOk P w H h a u := by
  rcases r with r | ⟨o, r⟩
  · exact x a u r
  · obtain ⟨_, q⟩ := x a _ r
    exact q
noncomputable def Mut : Option HO → Prop
  | some (.lst _) => True
  | some (.dK _) => True
  | some (.dT _) => True
  | some (.set _ _) => True
  | some (.ins _ _ _) => True
  | some (.ext _) => True
  | _ => False
section
variable {P : Program} {w : World} {H : Hp} {h h' : Heap} {x e : Addr} {o' : HO}
theorem HOk.write (ok : HOk P w H h) (mu : Mut (H x)) (he : e = x ∨ H e = some (.own x)) (k : ∀ b u, b ≠ e → h.get? b = some u → h'.get? b = some u) (heo : ∃ u, h'.get? e = some u)
    (new : ObjOk P w (upd H x o') h' x o') : HOk P w (upd H x o') h' := fun b u q => by
  have nown : ∀ c y, H c = some (.own y) → c ≠ x := fun c y r z => by subst z; rw [r] at mu; exact mu
  have ntup : ∀ c xs, H c = some (.tup xs) → c ≠ x := fun c xs r z => by subst z; rw [r] at mu; exact mu
  by_cases hb : b = x
  · subst hb; rw [upd_same] at q; cases q; exact new
  · rw [upd_ne hb] at q
    by_cases hbe : b = e
    · have q' : H b = some (.own x) := by
        rcases he with z | z
        · exact absurd (hbe.trans z) hb
        · rw [hbe]; exact z
      rw [q] at q'; cases q'
      obtain ⟨v, hv⟩ := heo
      exact ⟨v, by rw [hbe]; exact hv⟩
    · refine (ok b u q).stay (fun c v hc r => k c v ?_ r) (fun c r => by rw [upd_ne (nown c b r)]; exact r) fun c xs r => by rw [upd_ne (ntup c xs r)]; exact r
      rcases hc with rfl | hc
      · exact hbe
      · rintro rfl
        rcases he with z | z
        · exact nown c b hc z
        · rw [hc] at z; cases z; exact hb rfl
end
structure Un (fs ex : List Addr) (H H' : Hp) (h h' : Heap) : Prop where
  keep : ∀ b o, h.get? b = some o → H b = none → b ∉ fs → b ∉ ex → h'.get? b = some o
  slot : ∀ b o, h.get? b = some o → H b = none → b ∈ fs → b ∉ ex → ∃ sl, h'.get? b = some { o with slots := sl }
  free : ∀ b o, h.get? b = some o → H b = none → b ∉ ex → H' b = none
  there : ∀ b o, h.get? b = some o → b ∉ ex → ∃ o', h'.get? b = some o'
  tups : ∀ b xs, H b = some (.tup xs) → H' b = some (.tup xs)
  frzs : ∀ b o u, H b = some (.frz o u) → H' b = some (.frz o u)
  tbls : ∀ b ps, H b = some (.tbl ps) → ∃ more, H' b = some (.tbl (ps ++ more))
section
variable {fs fs' ex ex' : List Addr} {H H1 H2 : Hp} {h h1 h2 h' : Heap} {a x e : Addr} {o : HO}
theorem Un.any (u : Un fs ex H H1 h h1) {b : Addr} {ob : Obj} (q : h.get? b = some ob) (n : H b = none) (hx : b ∉ ex) : ∃ sl, h1.get? b = some { ob with slots := sl } := by
  by_cases hb : b ∈ fs
  · exact u.slot b ob q n hb hx
  · exact ⟨ob.slots, u.keep b ob q n hb hx⟩
theorem Un.kept (k : ∀ b u, h.get? b = some u → h'.get? b = some u) : Un fs ex H H h h' :=
  ⟨fun b ob q _ _ _ => k b ob q, fun b ob q _ _ _ => ⟨ob.slots, k b ob q⟩, fun _ _ _ n _ => n, fun b ob q _ => ⟨ob, k b ob q⟩, fun _ _ q => q, fun _ _ _ q => q, fun _ ps q => ⟨#[], by rw [q]; simp⟩⟩
theorem Un.refl : Un fs ex H H h h := Un.kept fun _ _ q => q
theorem Un.laid (k : ∀ b u, h.get? b = some u → h'.get? b = some u) (hp : h.objs.size ≤ a) (hn : H a = none) : Un fs ex H (upd H a o) h h' where
  keep := fun b u q _ _ _ => k b u q
  slot := fun b u q _ _ _ => ⟨u.slots, k b u q⟩
  free := fun b u q n _ => by rw [upd_ne (Nat.ne_of_lt (Nat.lt_of_lt_of_le (Heap.lt_size q) hp))]; exact n
  there := fun b u q _ => ⟨u, k b u q⟩
  tups := fun b xs q => by rw [upd_ne (ne_of_none q hn)]; exact q
  frzs := fun b u xs q => by rw [upd_ne (ne_of_none q hn)]; exact q
  tbls := fun b ps q => ⟨#[], by rw [upd_ne (ne_of_none q hn), q]; simp⟩
theorem Un.write (mu : Mut (H x)) (he : e = x ∨ H e = some (.own x)) (k : ∀ b u, b ≠ e → h.get? b = some u → h'.get? b = some u) (heo : ∃ u, h'.get? e = some u) : Un fs ex H (upd H x o) h h' := by
  have hx : ∀ b, H b = none → b ≠ x := fun b n z => by subst z; rw [n] at mu; exact mu
  have hb : ∀ b, H b = none → b ≠ e := fun b n z => by
    subst z
    rcases he with r | r
    · exact hx b n r
    · rw [n] at r; cases r
  have hm : ∀ b u, H b = some u → ¬ Mut (some u) → b ≠ x := fun b u q nm z => by subst z; rw [q] at mu; exact nm mu
  refine ⟨fun b u q n _ _ => k b u (hb b n) q, fun b u q n _ _ => ⟨u.slots, k b u (hb b n) q⟩, fun b u q n _ => by rw [upd_ne (hx b n)]; exact n, fun b u q _ => ?_,
    fun b xs q => by rw [upd_ne (hm b _ q fun z => z)]; exact q, fun b u xs q => by rw [upd_ne (hm b _ q fun z => z)]; exact q, fun b ps q => ⟨#[], by rw [upd_ne (hm b _ q fun z => z), q]; simp⟩⟩
  by_cases hbe : b = e
  · subst hbe; exact heo
  · exact ⟨u, k b u hbe q⟩
end
noncomputable def trk (h : Heap) (H : Hp) : List Addr := (List.range h.objs.size).filter fun a => (H a).isSome
noncomputable def hidT (h : Heap) (H : Hp) : Heap := PySem.W.hideAll h (trk h H)
theorem hidT_size (h : Heap) (H : Hp) : (hidT h H).objs.size = h.objs.size := PySem.W.hideAll_size _ _
theorem hidT_get {h : Heap} {H : Hp} {b : Addr} {o : Obj} (e : h.get? b = some o) (n : H b = none) : (hidT h H).get? b = some o :=
  PySem.W.hideAll_get _ e fun hm => by
    have q : (H b).isSome = true := (List.mem_filter.mp hm).2
    rw [n] at q; simp at q
theorem of_hidT {h : Heap} {H : Hp} {b : Addr} {o : Obj} (e : (hidT h H).get? b = some o) : h.get? b = some o ∧ H b = none := by
  have e' : h.get? b = some o := PySem.W.of_hideAll (trk h H) e
  refine ⟨e', ?_⟩
  cases q : H b with
  | none => rfl
  | some x =>
    have hm : b ∈ trk h H := List.mem_filter.mpr ⟨List.mem_range.mpr (Heap.lt_size e'), by simp [q]⟩
    have z : (hidT h H).get? b = none := PySem.W.hideAll_none (trk h H) hm
    rw [z] at e; cases e
noncomputable def allNews (g h : Heap) (L : Addr) : List (Addr × Obj) := (List.range h.objs.size).filterMap fun a => if a = L ∨ (g.get? a).isSome = true then none else (h.get? a).map fun o => (a, o)
noncomputable def rest (g h : Heap) (L d : Addr) : List (Addr × Obj) := (allNews g h L).filter fun p => decide (p.1 ≠ d)
end L2
namespace L2
open PySem PySem.Spec PyProof.Rows
structure Mod (K : PySem.W.Frag) (mg : Str → Option Value) (base : Heap) : Prop where
  kin : K.In base
  glob : base.Ns mainGlobals mg
  blt : ∃ mb, base.Ns builtinsNs mb ∧ ∀ x : Str, x ≠ "__name__" → mb x = bootBuiltins x
  nolimit : base.NoLimit
structure Cx where
  prog : Program
  w : World
  K : PySem.W.Frag
  mg : Str → Option Value
  base : Heap
  A : Around
  N : List Str
  s₀ : Shared
  H₀ : Hp
  env : Env
  outer : List Env
  stack : List Env
  ex : List Addr
  fn : Str → Bool
  calm : Bool
  pn : List (Addr × Obj)
  xe : Value → Shared → Prop
noncomputable def frs (l : List Env) : List Addr := l.filterMap (·.frame)
noncomputable abbrev Cx.fs (X : Cx) : List Addr := frs X.outer
noncomputable def Vis (sc : Scope) (x : Str) : Prop := sc.names.lookup x = some .local ∨ sc.names.lookup x = some .cell ∨ sc.names.lookup x = some .free
noncomputable def Loc (sc : Scope) (x : Str) : Prop := sc.names.lookup x = some .local ∨ sc.names.lookup x = some .cell
noncomputable def Look (env : Env) (h : Heap) (m : Str → Option Value) (x : Str) (u : Value) : Prop :=
  (env.kindOf x = some .local ∧ m x = some u) ∨ ((env.kindOf x = some .cell ∨ env.kindOf x = some .free) ∧ ∃ c, env.cells.lookup x = some c ∧ h.IsCell c (some u))
structure Cx.Ok (X : Cx) : Prop where
  mod : Mod X.K X.mg X.base
  kind : X.env.scope.kind = .function
  glob : X.env.globals = mainGlobals
  blt : X.env.builtins = builtinsNs
  above : X.s₀.heap.objs.size ≤ X.env.locals
  inj : ∀ x y c, X.env.cells.lookup x = some c → X.env.cells.lookup y = some c → x = y
  has : ∀ x, (X.env.kindOf x = some .cell ∨ X.env.kindOf x = some .free) → ∃ c, X.env.cells.lookup x = some c
  cab : ∀ x c, X.fn x = true → X.env.cells.lookup x = some c → X.s₀.heap.objs.size ≤ c
  hd : X.calm = true → X.A.handled = none
  frames : X.A.frames = some X.stack
  stk : X.stack = X.outer ∨ (X.stack = X.env :: X.outer ∧ X.env.frame = some X.env.locals)
  exf : ∀ b ∈ X.ex, b ≠ X.env.locals ∧ ∀ x c, X.env.cells.lookup x = some c → c ≠ b
  bs : ∀ b o, X.base.get? b = some o → X.s₀.heap.get? b = some o ∧ X.H₀ b = none
  bsz : X.base.objs.size ≤ X.s₀.heap.objs.size
  noex : ∀ b o, X.base.get? b = some o → b ∉ X.ex
  exfs : ∀ b ∈ X.ex, b ∉ X.fs
  funs : X.s₀.heap.FunFrames X.base X.outer
  frf : ∀ b ∈ X.fs, X.H₀ b = none
structure Inv (X : Cx) (pins : List (Addr × Obj)) (σ : List (Option V)) (H : Hp) (s : Shared) : Prop where
  ok : X.Ok
  os : s.os = X.s₀.os
  bare : AllBare s.gens
  base : Un X.fs X.ex X.H₀ H X.s₀.heap s.heap
  loc : ∃ m, s.heap.Ns X.env.locals m ∧ ∀ (i : Nat) (x : Str) (v : V), X.N[i]? = some x → σ[i]? = some (some v) → Vis X.env.scope x → ∃ u, RelV v u ∧ Look X.env s.heap m x u
  cell : ∀ x c, X.env.cells.lookup x = some c → ∃ v, s.heap.IsCell c v
  free : H X.env.locals = none
  freeC : ∀ x c, X.env.cells.lookup x = some c → H c = none
  pin : ∀ p ∈ X.pn ++ pins, s.heap.get? p.1 = some p.2 ∧ H p.1 = none ∧ p.1 ≠ X.env.locals ∧ p.1 ∉ X.fs ∧ ∀ v, p.2.data ≠ .cell v
  hok : HOk X.prog X.w H s.heap
  len : σ.length = X.N.length
section
variable {X : Cx} {pins : List (Addr × Obj)} {σ : List (Option V)} {H H' : Hp} {s : Shared} {h' : Heap}
theorem Cx.Ok.nofr (ok : X.Ok) {b : Addr} {o : Obj} (e : X.base.get? b = some o) : b ∉ X.fs := fun hb => by
  have := (ok.funs.mem hb).1
  rw [e] at this; cases this
theorem Inv.bs (I : Inv X pins σ H s) : ∀ b o, X.base.get? b = some o → s.heap.get? b = some o ∧ H b = none := fun b o e =>
  ⟨I.base.keep b o (I.ok.bs b o e).1 (I.ok.bs b o e).2 (I.ok.nofr e) (I.ok.noex b o e), I.base.free b o (I.ok.bs b o e).1 (I.ok.bs b o e).2 (I.ok.noex b o e)⟩
theorem Inv.bk (I : Inv X pins σ H s) : ∀ b o, X.base.get? b = some o → s.heap.get? b = some o := fun b o e => (I.bs b o e).1
theorem Inv.mod (I : Inv X pins σ H s) : Mod X.K X.mg X.base := I.ok.mod
theorem Inv.kIn (I : Inv X pins σ H s) : X.K.In s.heap := I.ok.mod.kin.keeps I.bk
theorem Inv.nolimit (I : Inv X pins σ H s) : s.heap.NoLimit := I.ok.mod.nolimit.keeps I.bk
theorem Inv.lt (I : Inv X pins σ H s) : X.env.locals < s.heap.objs.size := let ⟨_, hn, _⟩ := I.loc; hn.lt
theorem Inv.sz (I : Inv X pins σ H s) : X.s₀.heap.objs.size ≤ s.heap.objs.size := Nat.le_trans I.ok.above (Nat.le_of_lt I.lt)
theorem Inv.nofs (I : Inv X pins σ H s) {a : Addr} (h : s.heap.objs.size ≤ a) : a ∉ X.fs := fun hb => by
  obtain ⟨_, o, ho, _⟩ := I.ok.funs.mem hb
  exact absurd (Nat.lt_of_lt_of_le (Heap.lt_size ho) (Nat.le_trans I.sz h)) (Nat.lt_irrefl _)
theorem Inv.cne (I : Inv X pins σ H s) : ∀ x c, X.env.cells.lookup x = some c → c ≠ X.env.locals := fun x c e z => by
  obtain ⟨v, o, ho, hd⟩ := I.cell x c e
  obtain ⟨m, ⟨o', es, ep, ho', hd', _⟩, _⟩ := I.loc
  rw [z, ho'] at ho; cases ho; rw [hd'] at hd; cases hd
theorem Inv.funs (I : Inv X pins σ H s) : s.heap.FunFrames X.base X.outer := by
  have all : ∀ (l : List Env), (∀ b ∈ frs l, b ∈ X.fs) → X.s₀.heap.FunFrames X.base l → s.heap.FunFrames X.base l := by
    intro l
    induction l with
    | nil => intro _ _; trivial
    | cons env r ih =>
      intro hs hl
      obtain ⟨hk, ⟨L, o, hf, hn, ho, hd⟩, hr⟩ := hl
      have hL : L ∈ X.fs := hs L (by unfold frs; rw [List.filterMap_cons, hf]; exact List.mem_cons_self)
      obtain ⟨sl, e⟩ := I.base.slot L o ho (I.ok.frf L hL) hL fun z => I.ok.exfs L z hL
      exact ⟨hk, ⟨L, _, hf, hn, e, hd⟩, ih (fun b hb => hs b (by unfold frs; rw [List.filterMap_cons, hf]; exact List.mem_cons_of_mem _ hb)) hr⟩
  exact all X.outer (fun _ hb => hb) I.ok.funs
theorem Inv.stack (I : Inv X pins σ H s) : s.heap.FunFrames X.base X.stack := by
  rcases I.ok.stk with e | ⟨e, hf⟩
  · rw [e]; exact I.funs
  · rw [e]
    obtain ⟨m, hn, _⟩ := I.loc
    refine .cons (by rw [I.ok.kind]; decide) hf hn ?_ I.funs
    exact Heap.get?_none_of_le (Nat.le_trans I.ok.bsz I.ok.above)
theorem Inv.stkSub (I : Inv X pins σ H s) : ∀ b ∈ frs X.stack, b ∈ X.env.locals :: X.fs := fun b hb => by
  rcases I.ok.stk with e | ⟨e, hf⟩
  · rw [e] at hb; exact List.mem_cons_of_mem _ hb
  · rw [e] at hb
    unfold frs at hb
    rw [List.filterMap_cons, hf] at hb
    exact hb
theorem Inv.stkFree (I : Inv X pins σ H s) : ∀ b ∈ frs X.stack, H b = none := fun b hb => by
  rcases List.mem_cons.mp (I.stkSub b hb) with e | hb
  · rw [e]; exact I.free
  · obtain ⟨_, o, ho, _⟩ := I.ok.funs.mem hb
    exact I.base.free b o ho (I.ok.frf b hb) fun z => I.ok.exfs b z hb
theorem Inv.step {g' : Array GenState} {t' : Nat} {d' : Drawn} {ch : List Addr} (I : Inv X pins σ H s)
    (hch : ∀ b ∈ ch, (b ∈ X.ex ∨ X.s₀.heap.objs.size ≤ b) ∧ b ≠ X.env.locals ∧ (∀ x c, X.env.cells.lookup x = some c → c ≠ b) ∧ ∀ p ∈ X.pn ++ pins, p.1 ≠ b)
    (keep : ∀ b o, b ≠ X.env.locals → b ∉ X.fs → b ∉ ch → s.heap.get? b = some o → H b = none → h'.get? b = some o)
    (slot : ∀ b o, b ≠ X.env.locals → b ∈ X.fs → b ∉ ch → s.heap.get? b = some o → H b = none → ∃ sl, h'.get? b = some { o with slots := sl }) (free : ∀ b o, b ∉ ch → s.heap.get? b = some o → H b = none → H' b = none)
    (there : ∀ b o, b ∉ ch → s.heap.get? b = some o → ∃ o', h'.get? b = some o')
    (tups : ∀ b xs, H b = some (.tup xs) → H' b = some (.tup xs)) (frzs : ∀ b o u, H b = some (.frz o u) → H' b = some (.frz o u)) (tbls : ∀ b ps, H b = some (.tbl ps) → ∃ more, H' b = some (.tbl (ps ++ more)))
    (ns : ∀ m, s.heap.Ns X.env.locals m → h'.Ns X.env.locals m) (hok : HOk X.prog X.w H' h') (hg : AllBare g') :
    Inv X pins σ H' { s with heap := h', gens := g', drawn := d', toks := t' } := by
  have neL : ∀ b o, X.s₀.heap.get? b = some o → b ≠ X.env.locals := fun b o e => Nat.ne_of_lt (Nat.lt_of_lt_of_le (Heap.lt_size e) I.ok.above)
  have neC : ∀ b o, X.s₀.heap.get? b = some o → b ∉ X.ex → b ∉ ch := fun b o e hx hb => by
    rcases (hch b hb).1 with z | z
    · exact hx z
    · exact absurd (Nat.lt_of_lt_of_le (Heap.lt_size e) z) (Nat.lt_irrefl _)
  have cellK : ∀ x c, X.env.cells.lookup x = some c → ∀ v, s.heap.IsCell c v → h'.IsCell c v := fun x c e v ⟨o, ho, hd⟩ => by
    have nch : c ∉ ch := fun z => (hch c z).2.2.1 x c e rfl
    by_cases hc : c ∈ X.fs
    · obtain ⟨sl, q⟩ := slot c o (I.cne x c e) hc nch ho (I.freeC x c e)
      exact ⟨_, q, hd⟩
    · exact ⟨o, keep c o (I.cne x c e) hc nch ho (I.freeC x c e), hd⟩
  refine ⟨I.ok, I.os, hg, ⟨fun b o e n hb hx => ?_, fun b o e n hb hx => ?_, fun b o e n hx => ?_, fun b o e hx => ?_, fun b xs e => tups b xs (I.base.tups b xs e), fun b o xs e => frzs b o xs (I.base.frzs b o xs e), fun b ps e => ?_⟩, ?_, fun x c e => ?_, ?_, fun x c e => ?_, fun p hp => ?_, hok, I.len⟩
  · exact keep b o (neL b o e) hb (neC b o e hx) (I.base.keep b o e n hb hx) (I.base.free b o e n hx)
  · obtain ⟨sl, e1⟩ := I.base.slot b o e n hb hx
    obtain ⟨sl', e2⟩ := slot b _ (neL b o e) hb (neC b o e hx) e1 (I.base.free b o e n hx)
    exact ⟨sl', e2⟩
  · obtain ⟨o', e1⟩ := I.base.there b o e hx
    exact free b o' (neC b o e hx) e1 (I.base.free b o e n hx)
  · obtain ⟨o', e1⟩ := I.base.there b o e hx
    exact there b o' (neC b o e hx) e1
  · obtain ⟨m1, e1⟩ := I.base.tbls b ps e
    obtain ⟨m2, e2⟩ := tbls b _ e1
    exact ⟨m1 ++ m2, by rw [e2, Array.append_assoc]⟩
  · obtain ⟨m, hn, hl⟩ := I.loc
    refine ⟨m, ns m hn, fun i x v e1 e2 e3 => ?_⟩
    obtain ⟨u, r, l⟩ := hl i x v e1 e2 e3
    refine ⟨u, r, ?_⟩
    rcases l with l | ⟨k, c, e, z⟩
    · exact .inl l
    · exact .inr ⟨k, c, e, cellK x c e _ z⟩
  · obtain ⟨v, z⟩ := I.cell x c e
    exact ⟨v, cellK x c e v z⟩
  · obtain ⟨m, ⟨o, _, _, ho, _⟩, _⟩ := I.loc
    exact free _ o (fun z => (hch _ z).2.1 rfl) ho I.free
  · obtain ⟨v, o, ho, hd⟩ := I.cell x c e
    exact free c o (fun z => (hch c z).2.2.1 x c e rfl) ho (I.freeC x c e)
  · obtain ⟨e, n, ne, nf, d⟩ := I.pin p hp
    have nch : p.1 ∉ ch := fun z => (hch p.1 z).2.2.2 p hp rfl
    exact ⟨keep p.1 p.2 ne nf nch e n, free p.1 p.2 nch e n, ne, nf, d⟩
theorem Inv.un {t' : Nat} (I : Inv X pins σ H s) (u : Un X.fs [] H H' s.heap h') (hok : HOk X.prog X.w H' h') : Inv X pins σ H' { s with heap := h', toks := t' } := by
  obtain ⟨m, ⟨o, es, ep, ho, r⟩, _⟩ := id I.loc
  obtain ⟨sl, hL⟩ := u.any ho I.free (by simp)
  exact I.step (g' := s.gens) (d' := s.drawn) (ch := []) (fun _ z => nomatch z) (fun b o _ hb _ e n => u.keep b o e n hb (by simp)) (fun b o _ hb _ e n => u.slot b o e n hb (by simp)) (fun b o _ e n => u.free b o e n (by simp)) (fun b o _ e => u.there b o e (by simp)) u.tups u.frzs u.tbls (fun m' hm => by
    obtain ⟨o', es', ep', ho', r'⟩ := hm
    rw [ho] at ho'; cases ho'
    exact ⟨_, es', ep', hL, r'⟩) hok I.bare
theorem Inv.call {g' : Array GenState} {t' : Nat} {d' : Drawn} {ch : List Addr} (I : Inv X pins σ H s) (u : Un (frs X.stack) ch H H' s.heap h') (hok : HOk X.prog X.w H' h') (hg : AllBare g')
    (hch : ∀ b ∈ ch, (b ∈ X.ex ∨ X.s₀.heap.objs.size ≤ b) ∧ b ≠ X.env.locals ∧ (∀ x c, X.env.cells.lookup x = some c → c ≠ b) ∧ ∀ p ∈ X.pn ++ pins, p.1 ≠ b) :
    Inv X pins σ H' { s with heap := h', gens := g', drawn := d', toks := t' } := by
  obtain ⟨m, ⟨o, es, ep, ho, r⟩, _⟩ := id I.loc
  obtain ⟨sl, hL⟩ := u.any ho I.free fun z => (hch _ z).2.1 rfl
  exact I.step (ch := ch) hch (fun b o hL hb hc e n => u.keep b o e n (fun z => (List.mem_cons.mp (I.stkSub b z)).elim hL hb) hc) (fun b o _ _ hc e n => u.any e n hc) (fun b o hc e n => u.free b o e n hc) (fun b o hc e => u.there b o e hc) u.tups u.frzs u.tbls (fun m' hm => by
    obtain ⟨o', es', ep', ho', r'⟩ := hm
    rw [ho] at ho'; cases ho'
    exact ⟨_, es', ep', hL, r'⟩) hok hg
theorem Inv.turned {t' : Nat} {it : Addr} (I : Inv X pins σ H s) (k : ∀ b o, b ≠ it → s.heap.get? b = some o → h'.get? b = some o) (hn : H it = none) (hL : it ≠ X.env.locals)
    (h1 : it ∈ X.ex ∨ X.s₀.heap.objs.size ≤ it) (h2 : ∀ x c, X.env.cells.lookup x = some c → c ≠ it) (h3 : ∀ p ∈ X.pn ++ pins, p.1 ≠ it) : Inv X pins σ H { s with heap := h', toks := t' } := by
  have nit : ∀ b u, H b = some u → b ≠ it := fun b u e z => by rw [z, hn] at e; cases e
  refine I.step (g' := s.gens) (d' := s.drawn) (ch := [it]) (fun b hb => ?_) (fun b o _ _ hc e _ => k b o (fun z => hc (by simp [z])) e) (fun b o _ _ hc e _ => ⟨o.slots, k b o (fun z => hc (by simp [z])) e⟩) (fun _ _ _ _ n => n)
    (fun b o hc e => ⟨o, k b o (fun z => hc (by simp [z])) e⟩) (fun _ _ e => e) (fun _ _ _ e => e) (fun b ps e => ⟨#[], by rw [e]; simp⟩) (fun m hm => ?_) (fun b u e => ?_) I.bare
  · have e : b = it := by simpa using hb
    subst e
    exact ⟨h1, hL, h2, h3⟩
  · obtain ⟨o, es, ep, ho, r⟩ := hm
    exact ⟨o, es, ep, k _ o (Ne.symm hL) ho, r⟩
  · refine (I.hok b u e).stay (fun c v hc q => k c v ?_ q) (fun _ q => q) fun _ _ q => q
    rcases hc with z | z
    · rw [z]; exact nit b u e
    · exact nit c _ z
theorem Inv.tok (I : Inv X pins σ H s) (t : Nat) : Inv X pins σ H { s with toks := t } := I.un (h' := s.heap) (t' := t) Un.refl I.hok
theorem Inv.kept {t' : Nat} (I : Inv X pins σ H s) (k : ∀ b u, s.heap.get? b = some u → h'.get? b = some u) : Inv X pins σ H { s with heap := h', toks := t' } := I.un (Un.kept k) (I.hok.kept k)
theorem Inv.laid {a : Addr} {o : HO} {t' : Nat} (I : Inv X pins σ H s) (k : ∀ b u, s.heap.get? b = some u → h'.get? b = some u) (hp : s.heap.objs.size ≤ a) (new : ObjOk X.prog X.w (upd H a o) h' a o) :
    Inv X pins σ (upd H a o) { s with heap := h', toks := t' } := I.un (Un.laid k hp (I.hok.fresh hp)) (I.hok.laid k hp new)
theorem Inv.write {x e : Addr} {o : HO} {t' : Nat} (I : Inv X pins σ H s) (mu : Mut (H x)) (he : e = x ∨ H e = some (.own x)) (k : ∀ b u, b ≠ e → s.heap.get? b = some u → h'.get? b = some u) (heo : ∃ u, h'.get? e = some u)
    (new : ObjOk X.prog X.w (upd H x o) h' x o) : Inv X pins σ (upd H x o) { s with heap := h', toks := t' } := I.un (Un.write mu he k heo) (I.hok.write mu he k heo new)
theorem Inv.weak {σ' : List (Option V)} (I : Inv X pins σ H s) (hl : σ'.length = σ.length) (w : ∀ (i : Nat) v, σ'[i]? = some (some v) → σ[i]? = some (some v)) : Inv X pins σ' H s :=
  ⟨I.ok, I.os, I.bare, I.base, let ⟨m, hn, hl'⟩ := I.loc; ⟨m, hn, fun i x v e1 e2 e3 => hl' i x v e1 (w i v e2) e3⟩, I.cell, I.free, I.freeC, I.pin, I.hok, hl.trans I.len⟩
theorem Inv.pins_of {pins' : List (Addr × Obj)} (I : Inv X pins σ H s) (h : ∀ p ∈ pins', s.heap.get? p.1 = some p.2 ∧ H p.1 = none ∧ p.1 ≠ X.env.locals ∧ p.1 ∉ X.fs ∧ ∀ v, p.2.data ≠ .cell v) : Inv X pins' σ H s :=
  ⟨I.ok, I.os, I.bare, I.base, I.loc, I.cell, I.free, I.freeC, fun p hp => (List.mem_append.mp hp).elim (fun z => I.pin p (List.mem_append_left _ z)) (h p), I.hok, I.len⟩
theorem nodup_ix {N : List Str} (hN : N.Nodup) {i j : Nat} {x : Str} (a : N[i]? = some x) (b : N[j]? = some x) : i = j := by
  obtain ⟨h1, e1⟩ := List.getElem?_eq_some_iff.mp a
  obtain ⟨h2, e2⟩ := List.getElem?_eq_some_iff.mp b
  exact (List.getElem_inj hN).mp (e1.trans e2.symm)
theorem store_ok2 {M : Model} {A : Around} {E : Value → Shared → Prop} {i : Nat} {x : Str} {v : V} {u : Value} {Q : Unit → Shared → Prop} (I : Inv X pins σ H s) (hN : X.N.Nodup) (hi : X.N[i]? = some x) (hx : Loc X.env.scope x) (r : RelV v u)
    (h : ∀ s', Inv X pins (σ.set i (some v)) H s' → (∃ a, Heap.SameBut a s.heap s'.heap ∧ (a = X.env.locals ∨ X.env.cells.lookup x = some a)) → Q () s') (hf : X.fn x = true ∨ X.env.scope.names.lookup x = some .local := by first | exact .inl rfl | exact .inr rfl | assumption) : wpAny M A (storeName X.env x u) Q E s := by
  obtain ⟨m, hn, hl⟩ := id I.loc
  have hcls : (X.env.scope.kind == .class || (X.env.scope.kind == .module && X.env.locals != X.env.globals)) = false := by rw [I.ok.kind]; rfl
  have hiσ : i < σ.length := by rw [I.len]; exact (List.getElem?_eq_some_iff.mp hi).1
  have cne := I.cne
  have tracked : ∀ {a : Addr} {h' : Heap}, (∃ o, s.heap.get? a = some o ∧ H a = none) → Heap.SameBut a s.heap h' → HOk X.prog X.w H h' := fun {a h'} ha hs b ob e => by
    obtain ⟨_, _, hfree⟩ := ha
    refine (I.hok b ob e).stay (fun c w' hc q => (hs.2 c ?_).trans q) (fun _ q => q) fun _ _ q => q
    rintro rfl
    rcases hc with rfl | hc
    · rw [hfree] at e; cases e
    · rw [hfree] at hc; cases hc
  rcases hx with hk | hk
  · refine wpAny_storeName_local hk hn (fun h' hn' hs => ?_) hcls
    obtain ⟨oL, _, _, hoL, _⟩ := id hn
    refine h _ ⟨I.ok, I.os, I.bare, ⟨fun b o e n hb hx => ?_, fun b o e n hb hx => ?_, I.base.free, fun b o e hx => ?_, I.base.tups, I.base.frzs, I.base.tbls⟩, ⟨_, hn', fun j y v' e1 e2 e3 => ?_⟩, fun y c e => ?_, I.free, I.freeC, fun p hp => ?_, tracked ⟨oL, hoL, I.free⟩ hs, by simpa using I.len⟩ ⟨_, hs, .inl rfl⟩
    · exact (hs.2 b (Nat.ne_of_lt (Nat.lt_of_lt_of_le (Heap.lt_size e) I.ok.above))).trans (I.base.keep b o e n hb hx)
    · obtain ⟨sl, e1⟩ := I.base.slot b o e n hb hx
      exact ⟨sl, (hs.2 b (Nat.ne_of_lt (Nat.lt_of_lt_of_le (Heap.lt_size e) I.ok.above))).trans e1⟩
    · obtain ⟨o', e1⟩ := I.base.there b o e hx
      exact ⟨o', (hs.2 b (Nat.ne_of_lt (Nat.lt_of_lt_of_le (Heap.lt_size e) I.ok.above))).trans e1⟩
    · by_cases hj : j = i
      · subst hj
        rw [hi] at e1; cases e1
        rw [List.getElem?_set_self hiσ] at e2
        cases e2
        exact ⟨u, r, .inl ⟨hk, by simp⟩⟩
      · rw [List.getElem?_set_ne (Ne.symm hj)] at e2
        obtain ⟨u', r', q⟩ := hl j y v' e1 e2 e3
        refine ⟨u', r', ?_⟩
        rcases q with ⟨k, e⟩ | ⟨k, c, e, z⟩
        · refine .inl ⟨k, ?_⟩
          have : y ≠ x := fun e => hj (nodup_ix hN e1 (e ▸ hi))
          simp [this, e]
        · exact .inr ⟨k, c, e, z.sameBut hs (cne y c e)⟩
    · obtain ⟨w', z⟩ := I.cell y c e
      exact ⟨w', z.sameBut hs (cne y c e)⟩
    · obtain ⟨e, n, ne, nf, d⟩ := I.pin p hp
      exact ⟨(hs.2 p.1 ne).trans e, n, ne, nf, d⟩
  · have hfn : X.fn x = true := by
      rcases hf with z | z
      · exact z
      · rw [z] at hk; cases hk
    obtain ⟨c, hc⟩ := I.ok.has x (.inl hk)
    obtain ⟨w', z⟩ := I.cell x c hc
    refine wpAny_storeName_cell I.ok.kind hk hc z (fun h' hc' hs => ?_)
    obtain ⟨oc, hoc, hocd⟩ := id z
    refine h { s with heap := h' } ⟨I.ok, I.os, I.bare, ⟨fun b o e n hb hx => ?_, fun b o e n hb hx => ?_, I.base.free, fun b o e hx => ?_, I.base.tups, I.base.frzs, I.base.tbls⟩, ⟨m, hn.sameBut hs (Ne.symm (cne x c hc)), fun j y v' e1 e2 e3 => ?_⟩, fun y c' e => ?_, I.free, I.freeC, fun p hp => ?_, tracked ⟨oc, hoc, I.freeC x c hc⟩ hs, by simpa using I.len⟩ ⟨c, hs, .inr hc⟩
    · exact (hs.2 b (Nat.ne_of_lt (Nat.lt_of_lt_of_le (Heap.lt_size e) (I.ok.cab x c hfn hc)))).trans (I.base.keep b o e n hb hx)
    · obtain ⟨sl, e1⟩ := I.base.slot b o e n hb hx
      exact ⟨sl, (hs.2 b (Nat.ne_of_lt (Nat.lt_of_lt_of_le (Heap.lt_size e) (I.ok.cab x c hfn hc)))).trans e1⟩
    · obtain ⟨o', e1⟩ := I.base.there b o e hx
      exact ⟨o', (hs.2 b (Nat.ne_of_lt (Nat.lt_of_lt_of_le (Heap.lt_size e) (I.ok.cab x c hfn hc)))).trans e1⟩
    · by_cases hj : j = i
      · subst hj
        rw [hi] at e1; cases e1
        rw [List.getElem?_set_self hiσ] at e2
        cases e2
        exact ⟨u, r, .inr ⟨.inl hk, c, hc, hc'⟩⟩
      · rw [List.getElem?_set_ne (Ne.symm hj)] at e2
        obtain ⟨u', r', q⟩ := hl j y v' e1 e2 e3
        refine ⟨u', r', ?_⟩
        rcases q with q | ⟨k, c', e, z'⟩
        · exact .inl q
        · refine .inr ⟨k, c', e, z'.sameBut hs ?_⟩
          rintro rfl
          exact hj (nodup_ix hN e1 (I.ok.inj _ _ _ e hc ▸ hi))
    · by_cases hcc : c' = c
      · subst hcc; exact ⟨_, hc'⟩
      · obtain ⟨w2, z2⟩ := I.cell y c' e
        exact ⟨w2, z2.sameBut hs hcc⟩
    · obtain ⟨e, n, ne, nf, d⟩ := I.pin p hp
      refine ⟨(hs.2 p.1 ?_).trans e, n, ne, nf, d⟩
      intro q
      rw [q, hoc] at e
      have q' : oc = p.2 := Option.some.inj e
      exact d w' (by rw [← q']; exact hocd)
theorem store_ok {M : Model} {A : Around} {E : Value → Shared → Prop} {i : Nat} {x : Str} {v : V} {u : Value} {Q : Unit → Shared → Prop} (I : Inv X pins σ H s) (hN : X.N.Nodup) (hi : X.N[i]? = some x) (hx : Loc X.env.scope x) (r : RelV v u)
    (h : ∀ s', Inv X pins (σ.set i (some v)) H s' → Q () s') (hf : X.fn x = true ∨ X.env.scope.names.lookup x = some .local := by first | exact .inl rfl | exact .inr rfl | assumption) : wpAny M A (storeName X.env x u) Q E s :=
  store_ok2 I hN hi hx r (fun s' I' _ => h s' I') hf
theorem Inv.call' {s' : Shared} {ch : List Addr} (I : Inv X pins σ H s) (ho : s'.os = s.os) (u : Un (frs X.stack) ch H H' s.heap s'.heap) (hok : HOk X.prog X.w H' s'.heap) (hg : AllBare s'.gens)
    (hch : ∀ b ∈ ch, (b ∈ X.ex ∨ X.s₀.heap.objs.size ≤ b) ∧ b ≠ X.env.locals ∧ (∀ x c, X.env.cells.lookup x = some c → c ≠ b) ∧ ∀ p ∈ X.pn ++ pins, p.1 ≠ b) : Inv X pins σ H' s' := by
  obtain ⟨h', g', d', t', o'⟩ := s'
  have e : o' = s.os := ho
  subst e
  exact I.call (g' := g') (t' := t') (d' := d') u hok hg hch
end
noncomputable abbrev XK := Value → Option Addr → Hp → Prop
noncomputable abbrev St := List (Option V)
noncomputable abbrev VK := V → Hp → Prop
noncomputable abbrev TE := St → Hp → VK → Prop
noncomputable abbrev TT := St → Hp → (Bool → Hp → Prop) → Prop
noncomputable abbrev TA := St → Hp → (List V → Hp → Prop) → Prop
structure Ends where
  nx : St → Hp → Prop
  rt : VK
  bk : St → Hp → Prop := fun _ _ => False
  ct : St → Hp → Prop := fun _ _ => False
noncomputable abbrev TS := Ends → St → Hp → Prop
noncomputable def EP (X : Cx) (pins : List (Addr × Obj)) (σ : St) (Q : VK) (u : Value) (s' : Shared) : Prop := ∃ v H', Inv X pins σ H' s' ∧ RelV v u ∧ Q v H'
noncomputable def TP (X : Cx) (pins : List (Addr × Obj)) (σ : St) (Q : Bool → Hp → Prop) (b : Bool) (s' : Shared) : Prop := ∃ H', Inv X pins σ H' s' ∧ Q b H'
noncomputable def AP (X : Cx) (pins : List (Addr × Obj)) (σ : St) (Q : List V → Hp → Prop) (us : List Value) (s' : Shared) : Prop := ∃ vs H', Inv X pins σ H' s' ∧ Vals vs us ∧ Q vs H'
noncomputable def SP (X : Cx) (pins : List (Addr × Obj)) (D : Ends) (f : Flow) (s' : Shared) : Prop :=
  match f with
  | .next => ∃ σ' H', Inv X pins σ' H' s' ∧ D.nx σ' H'
  | .brk => ∃ σ' H', Inv X pins σ' H' s' ∧ D.bk σ' H'
  | .cont => ∃ σ' H', Inv X pins σ' H' s' ∧ D.ct σ' H'
  | .ret u => ∃ v σ' H', Inv X pins σ' H' s' ∧ RelV v u ∧ D.rt v H'
noncomputable def PE (X : Cx) (e : Expr) (t : TE) : Prop :=
  ∀ (pins : List (Addr × Obj)) (s : Shared) (σ : St) (H : Hp) (Q : VK), Inv X pins σ H s → t σ H Q → wpAny (model X.prog X.w) X.A (eval e X.env) (EP X pins σ Q) X.xe s
noncomputable def PT (X : Cx) (e : Expr) (t : TT) : Prop :=
  ∀ (pins : List (Addr × Obj)) (s : Shared) (σ : St) (H : Hp) (Q : Bool → Hp → Prop), Inv X pins σ H s → t σ H Q → wpAny (model X.prog X.w) X.A (isTrue e X.env (eval e X.env)) (TP X pins σ Q) X.xe s
noncomputable def PW (X : Cx) (e : Expr) (t : TT) : Prop :=
  ∀ (whole : Sem Value) (pins : List (Addr × Obj)) (s : Shared) (σ : St) (H : Hp) (Q : Bool → Hp → Prop), Inv X pins σ H s → t σ H Q → wpAny (model X.prog X.w) X.A (isTrue e X.env whole) (TP X pins σ Q) X.xe s
theorem PW.pt {X : Cx} {e : Expr} {t : TT} (h : PW X e t) : PT X e t := h _
noncomputable def PA (X : Cx) (es : List Expr) (t : TA) : Prop :=
  ∀ (pos : Pos) (pins : List (Addr × Obj)) (s : Shared) (σ : St) (H : Hp) (Q : List V → Hp → Prop), Inv X pins σ H s → t σ H Q → wpAny (model X.prog X.w) X.A (spliced (backTo pos (starEach es X.env))) (AP X pins σ Q) X.xe s
noncomputable def PS (X : Cx) (st : Stmt) (t : TS) : Prop :=
  ∀ (pins : List (Addr × Obj)) (s : Shared) (σ : St) (H : Hp) (D : Ends), Inv X pins σ H s → t D σ H → wpAny (model X.prog X.w) X.A (exec st X.env) (SP X pins D) X.xe s
noncomputable def PSs (X : Cx) (st : List Stmt) (t : TS) : Prop :=
  ∀ (pins : List (Addr × Obj)) (s : Shared) (σ : St) (H : Hp) (D : Ends), Inv X pins σ H s → t D σ H → wpAny (model X.prog X.w) X.A (execs st X.env) (SP X pins D) X.xe s
theorem thn {α : Type} {t : Sem α} {Q Q' : α → Shared → Prop} {M : Model} {A : Around} {E : Value → Shared → Prop} {s : Shared} (h : wpAny M A t Q E s) (hQ : ∀ a s, Q a s → Q' a s) : wpAny M A t Q' E s := wpAny_mono h hQ fun _ _ x => x
end L2
namespace L2
open PySem PySem.Spec PyProof.Rows
section
variable {X : Cx}
noncomputable def tVar (i : Nat) : TE := fun σ H Q => ∃ v, σ[i]? = some (some v) ∧ Q v H
noncomputable def tC (v : V) : TE := fun _ H Q => Q v H
theorem pe_var {i : Nat} {x : Str} {pos : Pos} (hN : X.N[i]? = some x) (hv : Vis X.env.scope x) (hd : (x == ("__debug__" : Str)) = false := by decide) (hcd : (x == ("__classdict__" : Str)) = false := by decide) : PE X (.Name x pos) (tVar i) := by
  intro pins s σ H Q I h
  obtain ⟨v, e, h⟩ := h
  obtain ⟨m, hn, hl⟩ := I.loc
  obtain ⟨u, r, l⟩ := hl i x v hN e hv
  have fin : EP X pins σ Q u s := ⟨v, H, I, r, h⟩
  rcases l with ⟨hk, hm⟩ | ⟨hk, c, hc, hcell⟩
  · exact wpAny_Name (wpAny_loadName_local I.ok.kind hk hn hm fin) hd
  · rcases hk with hk | hk
    · exact wpAny_Name (wpAny_loadName_cell I.ok.kind hk hc hcell fin) hd
    · exact wpAny_Name (wpAny_loadName_free I.ok.kind hk hc hcell fin hcd) hd
theorem pe_int {i j pos} : PE X (.Constant (.int i) j pos) (tC (.int i)) := fun _ _ _ H _ I h => wpAny_Constant_int ⟨.int i, H, I.tok _, ⟨_, rfl⟩, h⟩
theorem pe_bl {b j pos} : PE X (.Constant (.bool b) j pos) (tC (.bl b)) := fun _ _ _ H _ I h => Constant_bool ⟨.bl b, H, I, rfl, h⟩
theorem pe_non {j pos} : PE X (.Constant .none j pos) (tC .non) := fun _ _ _ H _ I h => Constant_none ⟨.non, H, I, rfl, h⟩
theorem pe_str {x j pos} : PE X (.Constant (.str x) j pos) (tC (.str x)) := fun _ _ _ H _ I h => Calls.Constant_str ⟨.str x, H, I.tok _, ⟨_, rfl⟩, h⟩
noncomputable def Gl (X : Cx) (x : Str) : Prop := X.env.kindOf x = some .globalImplicit
theorem ld_glob {E : Value → Shared → Prop} {pins : List (Addr × Obj)} {s : Shared} {σ : St} {H : Hp} {x : Str} {u : Value} {pos : Pos} {Q : Value → Shared → Prop} (I : Inv X pins σ H s) (hg : Gl X x) (hm : X.mg x = some u) (h : Q u s)
    (hd : (x == ("__debug__" : Str)) = false := by decide) : wpAny (model X.prog X.w) X.A (eval (.Name x pos) X.env) Q E s :=
  Calls.Name_function_global I.ok.kind hg (Calls.loadGlobal_global (by rw [I.ok.glob]; exact I.mod.glob.keeps I.bk) hm h) hd
theorem ld_blt {E : Value → Shared → Prop} {pins : List (Addr × Obj)} {s : Shared} {σ : St} {H : Hp} {x : Str} {u : Value} {pos : Pos} {Q : Value → Shared → Prop} (I : Inv X pins σ H s) (hg : Gl X x) (hm : X.mg x = none) (hv : bootBuiltins x = some u) (h : Q u s)
    (hn : x ≠ "__name__" := by decide) (hd : (x == ("__debug__" : Str)) = false := by decide) : wpAny (model X.prog X.w) X.A (eval (.Name x pos) X.env) Q E s := by
  obtain ⟨mb, h1, h2⟩ := I.mod.blt
  exact Calls.Name_function_global I.ok.kind hg (Calls.loadGlobal_builtin (by rw [I.ok.glob]; exact I.mod.glob.keeps I.bk) hm (by rw [I.ok.blt]; exact h1.keeps I.bk) ((h2 x hn).trans hv) h) hd
theorem pe_glob {x : Str} {v : V} {u : Value} {pos : Pos} (hg : Gl X x) (hm : X.mg x = some u) (r : RelV v u) (hd : (x == ("__debug__" : Str)) = false := by decide) : PE X (.Name x pos) (tC v) :=
  fun _ _ _ H _ I h => ld_glob I hg hm ⟨v, H, I, r, h⟩ hd
theorem pe_bltn {x : Str} {v : V} {u : Value} {pos : Pos} (hg : Gl X x) (hm : X.mg x = none) (hv : bootBuiltins x = some u) (r : RelV v u) (hn : x ≠ "__name__" := by decide) (hd : (x == ("__debug__" : Str)) = false := by decide) : PE X (.Name x pos) (tC v) :=
  fun _ _ _ H _ I h => ld_blt I hg hm hv ⟨v, H, I, r, h⟩ hn hd
noncomputable def t2I (ta tb : TE) (k : Int → Int → Hp → Prop) : St → Hp → Prop := fun σ H => ta σ H fun x H1 => tb σ H1 fun y H2 => ∃ i j, x = .int i ∧ y = .int j ∧ k i j H2
noncomputable def tAdd (ta tb : TE) : TE := fun σ H Q => t2I ta tb (fun i j H2 => Q (.int (i + j)) H2) σ H
noncomputable def tSub (ta tb : TE) : TE := fun σ H Q => t2I ta tb (fun i j H2 => Q (.int (i - j)) H2) σ H
noncomputable def tMul (ta tb : TE) : TE := fun σ H Q => t2I ta tb (fun i j H2 => (-(2 ^ 64) < i ∧ i < 2 ^ 64) ∧ Q (.int (i * j)) H2) σ H
variable {a b : Expr} {ta tb : TE} {pos : Pos}
noncomputable def PC (X : Cx) (op : CmpOp) (a b : Expr) (t : TE) : Prop :=
  ∀ (pins : List (Addr × Obj)) (s : Shared) (σ : St) (H : Hp) (Q : VK), Inv X pins σ H s → t σ H Q →
    wpAny (model X.prog X.w) X.A (eval a X.env) (fun v s₁ => wpAny (model X.prog X.w) X.A (eval b X.env) (fun u s₂ => wpAny (model X.prog X.w) X.A (compareOp op v u) (EP X pins σ Q) X.xe s₂) X.xe s₁) X.xe s
theorem nobehind (b : Expr) {op : CmpOp} (h : op ≠ .In) (h2 : op ≠ .NotIn) : behindInMarks op b = false := by
  have e1 : (op == CmpOp.In) = false := by cases op <;> first | rfl | exact absurd rfl h
  have e2 : (op == CmpOp.NotIn) = false := by cases op <;> first | rfl | exact absurd rfl h2
  cases b <;> simp [behindInMarks, e1, e2]
noncomputable def tCmp (p : Int → Int → Bool) (ta tb : TE) : TE := fun σ H Q => t2I ta tb (fun i j H2 => Q (.bl (p i j)) H2) σ H
noncomputable abbrev tLt : TE → TE → TE := tCmp fun i j => decide (i < j)
noncomputable abbrev tLe : TE → TE → TE := tCmp fun i j => decide (i ≤ j)
noncomputable abbrev tGt : TE → TE → TE := tCmp fun i j => decide (j < i)
noncomputable abbrev tGe : TE → TE → TE := tCmp fun i j => decide (j ≤ i)
noncomputable abbrev tEqI : TE → TE → TE := tCmp fun i j => decide (i = j)
noncomputable abbrev tNeI : TE → TE → TE := tCmp fun i j => !decide (i = j)
noncomputable def tIsN (ta : TE) : TE := fun σ H Q => ta σ H fun x H1 => Q (.bl (decide (x = .non))) H1
noncomputable def tNotN (ta : TE) : TE := fun σ H Q => ta σ H fun x H1 => Q (.bl (!decide (x = .non))) H1
theorem RelV.none_iff {x : V} {v : Value} (r : RelV x v) : (v == Value.none) = decide (x = .non) := by
  cases x with
  | non => cases r; rfl
  | bl _ => cases r; rfl
  | int _ => obtain ⟨t, rfl⟩ := r; rfl
  | str _ => obtain ⟨t, rfl⟩ := r; rfl
  | byt _ => obtain ⟨t, rfl⟩ := r; rfl
  | flt _ => obtain ⟨t, rfl⟩ := r; rfl
  | ref _ => cases r; rfl
  | ty _ => cases r; rfl
theorem pc_isN {j pos'} (ha : PE X a ta) : PC X .Is a (.Constant .none j pos') (tIsN ta) := by
  intro pins s σ H Q I h
  refine thn (ha pins s σ H _ I h) fun v s1 ⟨x, H1, I1, r1, q1⟩ => ?_
  exact Constant_none (is_none_gen ⟨.bl _, H1, I1, by rw [r1.none_iff]; rfl, q1⟩)
theorem pc_notN {j pos'} (ha : PE X a ta) : PC X .IsNot a (.Constant .none j pos') (tNotN ta) := by
  intro pins s σ H Q I h
  refine thn (ha pins s σ H _ I h) fun v s1 ⟨x, H1, I1, r1, q1⟩ => ?_
  exact Constant_none (isnot_none_gen ⟨.bl _, H1, I1, by rw [r1.none_iff]; rfl, q1⟩)
noncomputable def tB (t : TE) : TT := fun σ H Q => t σ H fun x H1 => ∃ c, x = .bl c ∧ Q c H1
theorem pe_cmp {op : CmpOp} {t : TE} (h : PC X op a b t) (h1 : behindInMarks op b = false := by first | exact nobehind _ (by decide) (by decide) | rfl) : PE X (.Compare a [op] [b] pos) t := fun pins s σ H Q I hw => wpAny_Compare1 (h pins s σ H Q I hw) h1
theorem pt_cmp {op : CmpOp} {t : TE} (h : PC X op a b t) (h1 : behindInMarks op b = false := by first | exact nobehind _ (by decide) (by decide) | rfl) : PT X (.Compare a [op] [b] pos) (tB t) := by
  intro pins s σ H Q I hw
  refine wpAny_isTrue_Compare1 (thn (h pins s σ H _ I hw) fun v s1 h1 => thn h1 fun u s2 h2 => thn h2 fun c s3 ⟨x, H1, I1, r1, q1⟩ => ?_) h1
  obtain ⟨d, rfl, q⟩ := q1
  cases r1
  exact wpAny_truthy_bool ⟨H1, I1, q⟩
theorem pt_val {e : Expr} {t : TE} (h : PE X e t) (he : ∀ whole, isTrue e X.env whole = (do let v ← whole; standAt e.pos; holding [v] (truthy v)) := by intro _; rfl) : PT X e (tB t) := by
  intro pins s σ H Q I hw
  refine isTrue_plain (thn (h pins s σ H _ I hw) fun v s1 ⟨x, H1, I1, r1, q1⟩ => ?_) (he _)
  obtain ⟨d, rfl, q⟩ := q1
  cases r1
  exact wpAny_truthy_bool ⟨H1, I1, q⟩
variable {tA tB' : TT} {rest : List Expr}
noncomputable def tAnd (t u : TT) : TT := fun σ H Q => t σ H fun c H1 => if c = true then u σ H1 Q else Q false H1
noncomputable def tOr (t u : TT) : TT := fun σ H Q => t σ H fun c H1 => if c = true then Q true H1 else u σ H1 Q
noncomputable def tNot (t : TT) : TT := fun σ H Q => t σ H fun c H1 => Q (!c) H1
theorem pw_and1 (ha : PT X a tA) : PW X (.BoolOp .And [a] pos) tA := by
  intro wh pins s σ H Q I h
  refine isTrue_and (thn (ha pins s σ H Q I h) fun c s1 e => ?_)
  cases c with
  | true => exact isTrue_and_nil e
  | false => exact e
theorem pw_or1 (ha : PT X a tA) : PW X (.BoolOp .Or [a] pos) tA := by
  intro wh pins s σ H Q I h
  refine isTrue_or (thn (ha pins s σ H Q I h) fun c s1 e => ?_)
  cases c with
  | false => exact isTrue_or_nil e
  | true => exact e
theorem pw_and (ha : PT X a tA) (hb : PW X (.BoolOp .And (b :: rest) pos) tB') : PW X (.BoolOp .And (a :: b :: rest) pos) (tAnd tA tB') := by
  intro wh pins s σ H Q I h
  refine isTrue_and (thn (ha pins s σ H _ I h) fun c s1 ⟨H1, I1, q1⟩ => ?_)
  cases c with
  | true => exact hb wh pins s1 σ H1 Q I1 q1
  | false => exact ⟨H1, I1, q1⟩
theorem pw_or (ha : PT X a tA) (hb : PW X (.BoolOp .Or (b :: rest) pos) tB') : PW X (.BoolOp .Or (a :: b :: rest) pos) (tOr tA tB') := by
  intro wh pins s σ H Q I h
  refine isTrue_or (thn (ha pins s σ H _ I h) fun c s1 ⟨H1, I1, q1⟩ => ?_)
  cases c with
  | true => exact ⟨H1, I1, q1⟩
  | false => exact hb wh pins s1 σ H1 Q I1 q1
theorem pt_not (ha : PT X a tA) : PT X (.UnaryOp .Not a pos) (tNot tA) := by
  intro pins s σ H Q I h
  exact isTrue_not (ha pins s σ H (fun c H1 => Q (!c) H1) I h)
noncomputable def tAndV (ta tb : TE) : TE := fun σ H Q => ta σ H fun x H1 => ∃ c, x = .bl c ∧ if c = true then tb σ H1 Q else Q (.bl false) H1
noncomputable def tOrV (ta tb : TE) : TE := fun σ H Q => ta σ H fun x H1 => ∃ c, x = .bl c ∧ if c = true then Q (.bl true) H1 else tb σ H1 Q
noncomputable def tNotV (ta : TE) : TE := fun σ H Q => ta σ H fun x H1 => ∃ c, x = .bl c ∧ Q (.bl (!c)) H1
theorem pe_one {op} {t : TE} (h : PE X a t) : PE X (.BoolOp op [a] pos) t := fun pins s σ H Q I hw => BoolOp_one (h pins s σ H Q I hw)
theorem pe_and (ha : PE X a ta) (hb : PE X (.BoolOp .And (b :: rest) pos) tb) : PE X (.BoolOp .And (a :: b :: rest) pos) (tAndV ta tb) := by
  intro pins s σ H Q I h
  refine BoolOp_and (thn (ha pins s σ H _ I h) fun v s1 ⟨x, H1, I1, r1, q1⟩ => ?_)
  obtain ⟨c, rfl, q1⟩ := q1
  cases r1
  refine wpAny_truthy_bool ?_
  cases c with
  | true => exact hb pins s1 σ H1 Q I1 q1
  | false => exact ⟨.bl false, H1, I1, rfl, q1⟩
theorem pe_not (ha : PE X a ta) : PE X (.UnaryOp .Not a pos) (tNotV ta) := by
  intro pins s σ H Q I h
  refine UnaryOp_ (thn (ha pins s σ H _ I h) fun v s1 ⟨x, H1, I1, r1, q1⟩ => ?_)
  obtain ⟨c, rfl, q1⟩ := q1
  cases r1
  exact not_of (wpAny_truthy_bool ⟨.bl (!c), H1, I1, rfl, q1⟩)
noncomputable def tIf (t : TT) (ta tb : TE) : TE := fun σ H Q => t σ H fun c H1 => if c = true then ta σ H1 Q else tb σ H1 Q
theorem pe_ifExp {c : Expr} (hc : PT X c tA) (ha : PE X a ta) (hb : PE X b tb) : PE X (.IfExp c a b pos) (tIf tA ta tb) := by
  intro pins s σ H Q I h
  refine wpAny_IfExp (thn (hc pins s σ H _ I h) fun d s1 ⟨H1, I1, q1⟩ => ?_)
  cases d with
  | true => exact ha pins s1 σ H1 Q I1 q1
  | false => exact hb pins s1 σ H1 Q I1 q1
end
end L2
namespace L2
open PySem PySem.Spec PyProof.Rows
noncomputable def SqL (K : PySem.W.Frag) (H : Hp) (a : Addr) (xs : List V) : Prop :=
  Rd H a (.lst xs) ∨
    ∃ (o : Obj) (its : Array Value) (n : Nat), K.lookup a = some o ∧ o.cls = .type "list" ∧ o.dict = none ∧ o.data = .seq its n ∧ its.size ≤ sizeLine ∧ Vals xs its.toList
noncomputable def SqT (K : PySem.W.Frag) (H : Hp) (a : Addr) (xs : List V) : Prop :=
  Rd H a (.tup xs) ∨
    ∃ (o : Obj) (its : Array Value) (n : Nat), K.lookup a = some o ∧ o.cls = .type "tuple" ∧ o.data = .seq its n ∧ its.size ≤ sizeLine ∧ Vals xs its.toList
noncomputable def absV : Value → Option V
  | .none => some .non
  | .bool b => some (.bl b)
  | .int i _ => some (.int i)
  | .str x _ => some (.str x)
  | .bytes b _ => some (.byt b)
  | .float b _ => some (.flt b)
  | .ref a => some (.ref a)
  | .type n => some (.ty n)
  | _ => none
theorem RelV.abs {x : V} {u : Value} (r : RelV x u) : absV u = some x := by
  cases x with
  | non => cases r; rfl
  | bl _ => cases r; rfl
  | int _ => obtain ⟨t, rfl⟩ := r; rfl
  | str _ => obtain ⟨t, rfl⟩ := r; rfl
  | byt _ => obtain ⟨t, rfl⟩ := r; rfl
  | flt _ => obtain ⟨t, rfl⟩ := r; rfl
  | ref _ => cases r; rfl
  | ty _ => cases r; rfl
theorem RelV.inj {x y : V} {u : Value} (r : RelV x u) (q : RelV y u) : x = y := Option.some.inj (r.abs.symm.trans q.abs)
theorem Vals.inj : ∀ {xs ys : List V} {us : List Value}, Vals xs us → Vals ys us → xs = ys
  | _, _, _, .nil, .nil => rfl
  | _, _, _, .cons r t, .cons r' t' => by rw [r.inj r', Vals.inj t t']
section
variable {X : Cx} {pins : List (Addr × Obj)} {σ : St} {H : Hp} {s : Shared} {a : Addr} {xs ys : List V}
theorem SqL.of {K : PySem.W.Frag} (h : H a = some (.lst xs)) : SqL K H a xs := .inl (.inl h)
theorem SqT.of {K : PySem.W.Frag} (h : H a = some (.tup xs)) : SqT K H a xs := .inl (.inl h)
theorem Inv.list (I : Inv X pins σ H s) (h : SqL X.K H a xs) : ∃ its : List Value, Vals xs its ∧ PlainL s.heap a its.toArray ∧ xs.length ≤ sizeLine := by
  rcases h with h | ⟨o, its, n, hk, hc, hd, hs, hz, r⟩
  · obtain ⟨z, its, n, r, e⟩ := h.ok I.hok
    exact ⟨its, r, ⟨_, n, e, rfl, rfl, rfl⟩, z⟩
  · refine ⟨its.toList, r, ⟨o, n, I.kIn a o hk, hc, hd, by simpa using hs⟩, ?_⟩
    have e := r.length
    simp only [Array.length_toList] at e
    omega
theorem Inv.tuple (I : Inv X pins σ H s) (h : SqT X.K H a xs) : ∃ its : List Value, Vals xs its ∧ IsTup s.heap a its.toArray ∧ xs.length ≤ sizeLine := by
  rcases h with h | ⟨o, its, n, hk, hc, hs, hz, r⟩
  · obtain ⟨z, its, r, p⟩ := h.ok I.hok
    exact ⟨its, r, p, z⟩
  · refine ⟨its.toList, r, ⟨o, I.kIn a o hk, hc, n, by simpa using hs⟩, ?_⟩
    have e := r.length
    simp only [Array.length_toList] at e
    omega
theorem Inv.list_inj (I : Inv X pins σ H s) (h : SqL X.K H a xs) (h' : SqL X.K H a ys) : xs = ys := by
  obtain ⟨its, r, ⟨o, n, e, _, _, d⟩, _⟩ := I.list h
  obtain ⟨its', r', ⟨o', n', e', _, _, d'⟩, _⟩ := I.list h'
  rw [e] at e'; cases e'
  rw [d] at d'
  injection d' with d1 _
  have : its = its' := by simpa using congrArg Array.toList d1
  subst this
  exact r.inj r'
theorem Inv.tuple_inj (I : Inv X pins σ H s) (h : SqT X.K H a xs) (h' : SqT X.K H a ys) : xs = ys := by
  obtain ⟨its, r, ⟨o, e, _, n, d⟩, _⟩ := I.tuple h
  obtain ⟨its', r', ⟨o', e', _, n', d'⟩, _⟩ := I.tuple h'
  rw [e] at e'; cases e'
  rw [d] at d'
  injection d' with d1 _
  have : its = its' := by simpa using congrArg Array.toList d1
  subst this
  exact r.inj r'
end
noncomputable abbrev Cx.wish (X : Cx) (E : Value → Shared → Prop) : Cx := { X with xe := E }
noncomputable abbrev Cx.nox (X : Cx) : Cx := X.wish fun _ _ => False
theorem Cx.Ok.wish {X : Cx} (ok : X.Ok) (E : Value → Shared → Prop) : (X.wish E).Ok :=
  ⟨ok.mod, ok.kind, ok.glob, ok.blt, ok.above, ok.inj, ok.has, ok.cab, ok.hd, ok.frames, ok.stk, ok.exf, ok.bs, ok.bsz, ok.noex, ok.exfs, ok.funs, ok.frf⟩
theorem Cx.Ok.unwish {X : Cx} {E : Value → Shared → Prop} (ok : (X.wish E).Ok) : X.Ok :=
  ⟨ok.mod, ok.kind, ok.glob, ok.blt, ok.above, ok.inj, ok.has, ok.cab, ok.hd, ok.frames, ok.stk, ok.exf, ok.bs, ok.bsz, ok.noex, ok.exfs, ok.funs, ok.frf⟩
section
variable {X : Cx} {pins : List (Addr × Obj)} {σ : St} {H : Hp} {s : Shared} {E : Value → Shared → Prop}
theorem Inv.wish (I : Inv X pins σ H s) (E : Value → Shared → Prop) : Inv (X.wish E) pins σ H s := ⟨I.ok.wish E, I.os, I.bare, I.base, I.loc, I.cell, I.free, I.freeC, I.pin, I.hok, I.len⟩
theorem Inv.unwish (I : Inv (X.wish E) pins σ H s) : Inv X pins σ H s := ⟨I.ok.unwish, I.os, I.bare, I.base, I.loc, I.cell, I.free, I.freeC, I.pin, I.hok, I.len⟩
theorem SP.unwish {D : Ends} {f : Flow} {s' : Shared} (h : SP (X.wish E) pins D f s') : SP X pins D f s' := by
  cases f with
  | next => obtain ⟨σ', H', I, q⟩ := h; exact ⟨σ', H', I.unwish, q⟩
  | brk => obtain ⟨σ', H', I, q⟩ := h; exact ⟨σ', H', I.unwish, q⟩
  | cont => obtain ⟨σ', H', I, q⟩ := h; exact ⟨σ', H', I.unwish, q⟩
  | ret u => obtain ⟨v, σ', H', I, r, q⟩ := h; exact ⟨v, σ', H', I.unwish, r, q⟩
theorem PSs.nox {st : List Stmt} {t : TS} (h : PSs X.nox st t) : PSs X st t := fun pins s σ H D I hw =>
  wpAny_mono (h pins s σ H D (I.wish _) hw) (fun _ _ q => q.unwish) fun _ _ z => False.elim z
end
section
variable {X : Cx} {st : Stmt} {rest : List Stmt} {t u : TS} {e : Expr} {te : TE} {pos : Pos}
noncomputable def tNext : TS := fun D σ H => D.nx σ H
noncomputable def tSeq (t u : TS) : TS := fun D σ H => t { D with nx := u D } σ H
theorem pss_nil : PSs X [] tNext := fun _ _ σ H _ I h => wpAny_execs_nil ⟨σ, H, I, h⟩
theorem pss_cons (h1 : PS X st t) (h2 : PSs X rest u) : PSs X (st :: rest) (tSeq t u) := by
  intro pins s σ H D I h
  refine wpAny_execs_cons (thn (h1 pins s σ H { D with nx := u D } I h) fun f s1 q => ?_)
  cases f with
  | next =>
    obtain ⟨σ', H', I', q⟩ := q
    exact h2 pins s1 σ' H' D I' q
  | ret v => exact q
  | brk => exact q
  | cont => exact q
theorem pss_one (h1 : PS X st t) : PSs X [st] t := by
  intro pins s σ H D I h
  refine wpAny_execs_cons (thn (h1 pins s σ H D I h) fun f s1 q => ?_)
  cases f with
  | next => exact wpAny_execs_nil q
  | ret v => exact q
  | brk => exact q
  | cont => exact q
noncomputable def tBreak : TS := fun D σ H => D.bk σ H
noncomputable def tCont : TS := fun D σ H => D.ct σ H
theorem Inv.quiet {pins : List (Addr × Obj)} {σ : St} {H : Hp} {s : Shared} (I : Inv X pins σ H s) : interactive X.env = false := by simp [interactive, I.ok.kind]
noncomputable def tDrop (te : TE) : TS := fun D σ H => te σ H fun _ H1 => D.nx σ H1
theorem ps_expr (he : PE X e te) (hs : swapsWith e none pos.line X.env = pure false := by rfl) : PS X (.Expr e pos) (tDrop te) := by
  intro pins s σ H D I h
  exact wpAny_Expr_any (thn (he pins s σ H _ I h) fun v s1 ⟨x, H1, I1, r1, q1⟩ => ⟨σ, H1, I1, q1⟩) I.quiet hs
noncomputable def tRet (te : TE) : TS := fun D σ H => te σ H D.rt
theorem ps_ret (he : PE X e te) : PS X (.Return (some e) pos) (tRet te) := by
  intro pins s σ H D I h
  exact wpAny_Return_some (thn (he pins s σ H _ I h) fun v s1 ⟨x, H1, I1, r1, q1⟩ => ⟨x, σ, H1, I1, r1, q1⟩)
noncomputable def tRetN : TS := fun D _ H => D.rt .non H
noncomputable def tIfS (c : TT) (t u : TS) : TS := fun D σ H => c σ H fun b H1 => if b = true then t D σ H1 else u D σ H1
theorem ps_if {c : Expr} {a b : List Stmt} {tc : TT} (hc : PT X c tc) (ha : PSs X a t) (hb : PSs X b u) : PS X (.If c a b pos) (tIfS tc t u) := by
  intro pins s σ H D I h
  refine wpAny_If (thn (hc pins s σ H _ I h) fun d s1 ⟨H1, I1, q1⟩ => ?_)
  cases d with
  | true => exact ha pins s1 σ H1 D I1 q1
  | false => exact hb pins s1 σ H1 D I1 q1
noncomputable def tNever : TS := fun _ _ _ => False
theorem pss_never {sts : List Stmt} : PSs X sts tNever := fun _ _ _ _ _ _ h => h.elim
end
noncomputable abbrev TG := V → St → Hp → (St → Hp → Prop) → Prop
noncomputable abbrev TGs := List V → St → Hp → (St → Hp → Prop) → Prop
noncomputable def PG (X : Cx) (target : Expr) (t : TG) : Prop :=
  ∀ (pins : List (Addr × Obj)) (s : Shared) (σ : St) (H : Hp) (v : V) (u : Value) (Q : St → Hp → Prop), Inv X pins σ H s → RelV v u → t v σ H Q →
    wpAny (model X.prog X.w) X.A (assign target X.env u) (fun _ s' => ∃ σ' H', Inv X pins σ' H' s' ∧ Q σ' H') X.xe s
noncomputable def PGs (X : Cx) (ts : List Expr) (t : TGs) : Prop :=
  ∀ (pins : List (Addr × Obj)) (s : Shared) (σ : St) (H : Hp) (vs : List V) (us : List Value) (Q : St → Hp → Prop), Inv X pins σ H s → Vals vs us → t vs σ H Q →
    wpAny (model X.prog X.w) X.A (assignInOrder ((assignEach ts X.env).map (·.2)) us) (fun _ s' => ∃ σ' H', Inv X pins σ' H' s' ∧ Q σ' H') X.xe s
noncomputable abbrev TSet := V → V → V → Hp → (Hp → Prop) → Prop
noncomputable def PSet (X : Cx) (t : TSet) : Prop :=
  ∀ (pins : List (Addr × Obj)) (s : Shared) (σ : St) (H : Hp) (o i v : V) (ov iv u : Value) (Q : Hp → Prop), Inv X pins σ H s → RelV o ov → RelV i iv → RelV v u → t o i v H Q →
    wpAny (model X.prog X.w) X.A (setItem ov iv u) (fun _ s' => ∃ H', Inv X pins σ H' s' ∧ Q H') X.xe s
noncomputable abbrev TIp := V → V → Hp → VK → Prop
noncomputable def PIp (X : Cx) (op : Operator) (t : TIp) : Prop :=
  ∀ (pins : List (Addr × Obj)) (s : Shared) (σ : St) (H : Hp) (x y : V) (v u : Value) (Q : VK), Inv X pins σ H s → RelV x v → RelV y u → t x y H Q →
    wpAny (model X.prog X.w) X.A (inplaceOp op v u) (EP X pins σ Q) X.xe s
section
variable {X : Cx} {pos : Pos}
noncomputable def gName (i : Nat) : TG := fun v σ H Q => Q (σ.set i (some v)) H
theorem pg_name {i : Nat} {x : Str} (hN : X.N.Nodup) (hi : X.N[i]? = some x) (hx : Loc X.env.scope x) (hf : X.fn x = true ∨ X.env.scope.names.lookup x = some .local := by first | exact .inl rfl | exact .inr rfl | assumption) : PG X (.Name x pos) (gName i) := by
  intro pins s σ H v u Q I r h
  exact wpAny_assign_Name (store_ok I hN hi hx r (fun s' I' => ⟨_, H, I', h⟩) hf)
noncomputable def gNil : TGs := fun vs σ H Q => vs = [] ∧ Q σ H
noncomputable def gCons (t : TG) (u : TGs) : TGs := fun vs σ H Q => ∃ v r, vs = v :: r ∧ t v σ H fun σ' H' => u r σ' H' Q
theorem pgs_nil : PGs X [] gNil := by
  intro pins s σ H vs us Q I r h
  obtain ⟨e, h⟩ := h
  subst e
  cases r
  exact assignInOrder_nil ⟨σ, H, I, h⟩
theorem pgs_cons {e : Expr} {es : List Expr} {t : TG} {u : TGs} (h1 : PG X e t) (h2 : PGs X es u)
    (hs : (assignEach (e :: es) X.env).map (·.2) = assign e X.env :: (assignEach es X.env).map (·.2) := by rfl) : PGs X (e :: es) (gCons t u) := by
  intro pins s σ H vs us Q I r h
  obtain ⟨v, vr, e1, h⟩ := h
  subst e1
  cases r with
  | cons r rr =>
    rw [hs]
    refine assignInOrder_cons (thn (h1 pins s σ H _ _ _ I r h) fun _ s1 ⟨σ1, H1, I1, q1⟩ => ?_)
    exact h2 pins s1 σ1 H1 _ _ Q I1 rr q1
noncomputable def gTup (K : PySem.W.Frag) (n : Nat) (t : TGs) : TG := fun v σ H Q => ∃ a xs, v = .ref a ∧ SqT K H a xs ∧ xs.length = n ∧ t xs σ H Q
theorem pg_tup {es : List Expr} {k : Nat} {t : TGs} {n : Nat} (hc : X.calm = true) (h : PGs X es t)
    (hn : (assignEach es X.env).length = n := by rfl) (hst : (assignEach es X.env).findIdx? (·.1) = none := by rfl) : PG X (.Tuple es k pos) (gTup X.K n t) := by
  intro pins s σ H v u Q I r hw
  obtain ⟨a, xs, e1, hq, hl, hw⟩ := hw
  subst e1
  cases r
  obtain ⟨its, rv, ht, hz⟩ := I.tuple hq
  refine assign_Tuple_tuple (I.ok.hd hc) ht (by simp [hn, ← hl, rv.length]) hst fun h' hx => ?_
  have I1 : Inv X pins σ H { s with heap := h' } := I.kept (t' := s.toks) fun b o e => hx b o (Nat.ne_of_lt (Heap.lt_size e)) e
  exact h pins _ σ H xs _ Q I1 (by simpa using rv) hw
noncomputable def gSub (to ti : TE) (t : TSet) : TG := fun v σ H Q => to σ H fun o H1 => ti σ H1 fun i H2 => t o i v H2 fun H3 => Q σ H3
theorem pg_sub {o i : Expr} {to ti : TE} {t : TSet} (ho : PE X o to) (hi : PE X i ti) (hs : PSet X t)
    (ha : ∀ v, assign (.Subscript o i pos) X.env v = (do
      let ov ← holding [v] (eval o X.env)
      let iv ← holding [v, ov] (eval i X.env)
      standAt pos
      holding [v, ov, iv] (setItem ov iv v)
      release [v, ov, iv] []) := by intro _; rfl) : PG X (.Subscript o i pos) (gSub to ti t) := by
  intro pins s σ H v u Q I r h
  rw [ha]
  refine wpAny_bind (wpAny_holding (thn (ho pins s σ H _ I h) fun ov s1 ⟨x, H1, I1, r1, q1⟩ => ?_))
  refine wpAny_bind (wpAny_holding (thn (hi pins s1 σ H1 _ I1 q1) fun iv s2 ⟨y, H2, I2, r2, q2⟩ => ?_))
  refine wpAny_bind (wpAny_standAt (wpAny_bind (wpAny_holding (thn (hs pins s2 σ H2 x y v ov iv u _ I2 r1 r2 r q2) fun _ s3 ⟨H3, I3, q3⟩ => ?_))))
  exact wpAny_release ⟨σ, H3, I3, q3⟩
noncomputable def tAsg (te : TE) (g : TG) : TS := fun D σ H => te σ H fun x H1 => g x σ H1 D.nx
theorem ps_asg {tg e : Expr} {te : TE} {g : TG} (he : PE X e te) (hg : PG X tg g) (hs : swapsWithSole [tg] e pos.line X.env = pure false := by rfl) (hw : swappedStores [tg] e X.env = pure none := by rfl)
    (h1 : (assignEach [tg] X.env).map (·.2) = [assign tg X.env] := by rfl) : PS X (.Assign [tg] e pos) (tAsg te g) := by
  intro pins s σ H D I h
  refine wpAny_Assign_stores (thn (he pins s σ H _ I h) fun v s1 ⟨x, H1, I1, r1, q1⟩ => ?_) hs hw
  rw [h1]
  exact thn (hg pins s1 σ H1 x v _ I1 r1 q1) fun _ s2 q => q
theorem ps_set {i : Nat} {x : Str} {e : Expr} {te : TE} {pos' : Pos} (hN : X.N.Nodup) (hi : X.N[i]? = some x) (hx : Loc X.env.scope x) (he : PE X e te) (hs : swapsWith e (some (.Name x pos')) pos.line X.env = pure false := by rfl) (hf : X.fn x = true ∨ X.env.scope.names.lookup x = some .local := by first | exact .inl rfl | exact .inr rfl | assumption) :
    PS X (.Assign [.Name x pos'] e pos) (tAsg te (gName i)) := by
  intro pins s σ H D I h
  refine wpAny_Assign_Name (thn (he pins s σ H _ I h) fun v s1 ⟨y, H1, I1, r1, q1⟩ => ?_) hs
  exact store_ok I1 hN hi hx r1 (fun s2 I2 => ⟨_, H1, I2, q1⟩) hf
noncomputable def tPar (i j : Nat) (ta : TA) : TS := fun D σ H => ta σ H fun vs H1 => ∃ v w, vs = [v, w] ∧ D.nx ((σ.set i (some v)).set j (some w)) H1
noncomputable def tAug (i : Nat) (te : TE) (ti : TIp) : TS := fun D σ H => ∃ x, σ[i]? = some (some x) ∧ te σ H fun y H1 => ti x y H1 fun z H2 => D.nx (σ.set i (some z)) H2
noncomputable def tAugS (to ti te : TE) (tget : V → V → Hp → VK → Prop) (tip : TIp) (tset : TSet) : TS := fun D σ H => to σ H fun o H1 => ti σ H1 fun i H2 => tget o i H2 fun x H3 => te σ H3 fun y H4 => tip x y H4 fun z H5 => tset o i z H5 fun H6 => D.nx σ H6
noncomputable def PGet (X : Cx) (t : V → V → Hp → VK → Prop) : Prop :=
  ∀ (pins : List (Addr × Obj)) (s : Shared) (σ : St) (H : Hp) (o i : V) (ov iv : Value) (Q : VK), Inv X pins σ H s → RelV o ov → RelV i iv → t o i H Q →
    wpAny (model X.prog X.w) X.A (getItem ov iv) (EP X pins σ Q) X.xe s
noncomputable def ipI (f : Int → Int → Int) : TIp := fun x y H Q => ∃ i j, x = .int i ∧ y = .int j ∧ Q (.int (f i j)) H
end
section
variable {X : Cx} {pos : Pos}
noncomputable def tWhile (c : TT) (tb : TS) : TS := fun D σ H => ∃ W : Nat → St → Hp → Prop, (∃ m, W m σ H) ∧ ∀ m σ H, W m σ H →
  c σ H fun b H1 => if b = true then ∃ N : St → Hp → Prop, (∀ σ' H', N σ' H' → ∃ m', m' < m ∧ W m' σ' H') ∧ tb { D with nx := N, ct := N, bk := D.nx } σ H1 else D.nx σ H1
theorem ps_while {c : Expr} {body : List Stmt} {tc : TT} {tb : TS} (hp : PassesOwn (model X.prog X.w) X.A X.env X.xe) (hc : PT X c tc) (hb : PSs X body tb) : PS X (.While c body [] pos) (tWhile tc tb) := by
  intro pins s σ H D I h
  obtain ⟨W, ⟨m0, w0⟩, turn⟩ := h
  refine wpAny_While (codeAny_whileLoop (fun n s' => ∃ σ' H', Inv X pins σ' H' s' ∧ W n σ' H') ?_ m0 ⟨σ, H, I, w0⟩)
  rintro n s1 ⟨σ1, H1, I1, w1⟩
  refine wpAny_passesOwn hp (thn (hc pins s1 σ1 H1 _ I1 (turn n σ1 H1 w1)) fun b s2 ⟨H2, I2, q2⟩ => ?_)
  cases b with
  | true =>
    obtain ⟨N, hN, q2⟩ := q2
    rw [if_pos rfl]
    refine wpAny_passesOwn hp (thn (hb pins s2 σ1 H2 _ I2 q2) fun f s3 q3 => ?_)
    cases f with
    | next =>
      obtain ⟨σ3, H3, I3, n3⟩ := q3
      obtain ⟨m', hm, w3⟩ := hN σ3 H3 n3
      exact ⟨m', hm, σ3, H3, I3, w3⟩
    | cont =>
      obtain ⟨σ3, H3, I3, n3⟩ := q3
      obtain ⟨m', hm, w3⟩ := hN σ3 H3 n3
      exact ⟨m', hm, σ3, H3, I3, w3⟩
    | brk => exact q3
    | ret v => exact q3
  | false =>
    rw [if_neg Bool.false_ne_true]
    exact wpAny_execs_nil ⟨σ1, H2, I2, q2⟩
end
structure It where
  go : Nat → Hp → Prop
  yld : Nat → Hp → V → Hp → Prop
  stop : Nat → Hp → Prop
noncomputable def FpOk (X : Cx) (pins : List (Addr × Obj)) (H : Hp) (b : Addr) : Prop :=
  H b = none ∧ b ≠ X.env.locals ∧ b ∉ X.fs ∧ (b ∈ X.ex ∨ X.s₀.heap.objs.size ≤ b) ∧ (∀ x c, X.env.cells.lookup x = some c → c ≠ b) ∧ ∀ p ∈ X.pn ++ pins, p.1 ≠ b
theorem Inv.fpOk {X : Cx} {pins : List (Addr × Obj)} {σ : St} {H H' : Hp} {s : Shared} {b : Addr} (I : Inv X pins σ H s) (hb : s.heap.objs.size ≤ b) (hn : H' b = none) : FpOk X pins H' b := by
  refine ⟨hn, Nat.ne_of_gt (Nat.lt_of_lt_of_le I.lt hb), I.nofs hb, .inr (Nat.le_trans I.sz hb), fun x c e z => ?_, fun p hp z => ?_⟩
  · obtain ⟨v, q⟩ := I.cell x c e
    exact absurd (Nat.lt_of_lt_of_le q.lt (by rw [z]; exact hb)) (Nat.lt_irrefl _)
  · exact absurd (Nat.lt_of_lt_of_le (Heap.lt_size (I.pin p hp).1) (by rw [z]; exact hb)) (Nat.lt_irrefl _)
structure Turn (P : Program) (w : World) (K : PySem.W.Frag) (tg : Expr) (J : It) (fp : List Addr) (it : Addr) (tn : Nat → Heap → Prop) : Prop where
  mem : it ∈ fp
  obj : ∀ i h, tn i h → ∀ b ∈ fp, ∃ o, h.get? b = some o ∧ ∀ v, o.data ≠ .cell v
  keep : ∀ i h h', tn i h → (∀ b ∈ fp, ∀ o, h.get? b = some o → h'.get? b = some o) → tn i h'
  item : ∀ (X : Cx), X.prog = P → X.w = w → X.K = K → X.calm = true → ∀ (i : Nat) (pins : List (Addr × Obj)) (s : Shared) (σ : St) (H : Hp) (E : Value → Shared → Prop), Inv X pins σ H s → (∀ b ∈ fp, FpOk X pins H b) → tn i s.heap → J.go i H →
    wpAny (model P w) X.A (pyNext (.ref it)) (fun r s1 => ∃ u, r = some u ∧
      wpAny (model P w) X.A (letOwnedTupleGo tg (.ref it) u) (fun _ s2 => ∃ x H', Inv X pins σ H' s2 ∧ RelV x u ∧ J.yld i H x H' ∧ tn (i + 1) s2.heap ∧ ∀ b ∈ fp, H' b = none) E s1) E s
  done : ∀ (X : Cx), X.prog = P → X.w = w → X.K = K → X.calm = true → ∀ (i : Nat) (pins : List (Addr × Obj)) (s : Shared) (σ : St) (H : Hp) (E : Value → Shared → Prop), Inv X pins σ H s → (∀ b ∈ fp, FpOk X pins H b) → tn i s.heap → J.stop i H →
    wpAny (model P w) X.A (pyNext (.ref it)) (fun r s1 => r = none ∧ Inv X pins σ H s1) E s
  self : ∀ (A : Around) (i : Nat) (s : Shared) (Q : Value → Shared → Prop) (E : Value → Shared → Prop), tn i s.heap → Q (.ref it) s → wpAny (model P w) A (pyIter (.ref it)) Q E s
noncomputable abbrev TI := St → Hp → (It → Hp → Prop) → Prop
noncomputable def PIE (X : Cx) (pins : List (Addr × Obj)) (σ : St) (tg : Expr) (R : It → Hp → Prop) (itv : Value) (s2 : Shared) : Prop :=
  ∃ (it : Addr) (fp : List Addr) (tn : Nat → Heap → Prop) (J : It) (H' : Hp), itv = .ref it ∧ Inv X pins σ H' s2 ∧ Turn X.prog X.w X.K tg J fp it tn ∧ tn 0 s2.heap ∧ (∀ b ∈ fp, FpOk X pins H' b) ∧ R J H'
noncomputable def PI (X : Cx) (tg iter : Expr) (wi : TI) : Prop :=
  ∀ (pins : List (Addr × Obj)) (s : Shared) (σ : St) (H : Hp) (R : It → Hp → Prop), Inv X pins σ H s → wi σ H R →
    wpAny (model X.prog X.w) X.A (eval iter X.env) (fun v s1 => wpAny (model X.prog X.w) X.A (pyIter v) (PIE X pins σ tg R) X.xe s1) X.xe s
theorem go_of {M : Model} {A : Around} {E : Value → Shared → Prop} {s : Shared} {tg : Expr} {it : Addr} {u : Value} {o : Obj} {n : String} {vs : Array Value} {Q : Unit → Shared → Prop} (ho : s.heap.get? it = some o) (hc : o.cls = .type n) (hd : o.data = .fields vs)
    (hn : ["enumerate", "zip", "dict_itemiterator", "dict_reverseitemiterator", "odict_iterator", "itertools.zip_longest", "itertools.pairwise"].contains n = false) (hQ : Q () s) : wpAny M A (letOwnedTupleGo tg (.ref it) u) Q E s := by
  unfold letOwnedTupleGo
  cases tg <;> first
    | exact wpAny_pure hQ
    | (cases u <;> first
        | exact wpAny_pure hQ
        | (refine wpAny_bind (wpAny_load ho ?_)
           rw [hc, hd]
           show wpAny M A (if (["enumerate", "zip", "dict_itemiterator", "dict_reverseitemiterator", "odict_iterator", "itertools.zip_longest", "itertools.pairwise"].contains n && vs[0]? == some (rawInt _)) = true then _ else _) Q E s
           rw [if_neg (by intro h; rw [hn, Bool.false_and] at h; cases h)]
           exact wpAny_pure hQ))
noncomputable def Itl (K : PySem.W.Frag) (a : Addr) : It :=
  ⟨fun i H => ∃ xs x, SqL K H a xs ∧ xs[i]? = some x, fun i H x H' => H' = H ∧ ∀ xs, SqL K H a xs → xs[i]? = some x, fun i H => ∃ xs, SqL K H a xs ∧ xs.length ≤ i⟩
noncomputable def Itt (K : PySem.W.Frag) (a : Addr) : It :=
  ⟨fun i H => ∃ xs x, SqT K H a xs ∧ xs[i]? = some x, fun i H x H' => H' = H ∧ ∀ xs, SqT K H a xs → xs[i]? = some x, fun i H => ∃ xs, SqT K H a xs ∧ xs.length ≤ i⟩
noncomputable def Itr (lo : Int) (n : Nat) : It := ⟨fun i _ => i < n, fun i H x H' => H' = H ∧ x = .int (lo + i), fun i _ => n ≤ i⟩
theorem turn_list {P : Program} {w : World} {K : PySem.W.Frag} {tg : Expr} (a it : Addr) : Turn P w K tg (Itl K a) [it] it (fun i h => h.IsListIter it a i) where
  mem := by simp
  obj := fun i h st b hb => by
    have e : b = it := by simpa using hb
    subst e
    obtain ⟨o, e, c, d⟩ := st
    exact ⟨o, e, fun v z => by rw [d] at z; cases z⟩
  keep := fun i h h' st k => st.at fun o e => k it (by simp) o e
  item := by
    intro X hP hw hK hc i pins s σ H E I hf st hg
    subst hP hw hK
    obtain ⟨xs, x, hq, hx⟩ := hg
    obtain ⟨its, rv, p, hz⟩ := I.list hq
    obtain ⟨u, hu, ru⟩ := rv.get hx
    obtain ⟨f0, f1, f2, f3, f4, f5⟩ := hf it (by simp)
    refine wpAny_pyNext_list_item st p.isList (x := u) (by simpa using hu) fun h' st' sb => ?_
    have I1 : Inv X pins σ H { s with heap := h' } := I.turned (t' := s.toks) (fun b o hb e => (sb.2 b hb).trans e) f0 f1 f3 f4 f5
    obtain ⟨o, e, c, d⟩ := id st'
    exact ⟨u, rfl, go_of (s := { s with heap := h' }) e c d (by decide) ⟨x, H, I1, ru, ⟨rfl, fun ys hy => by rw [I.list_inj hy hq]; exact hx⟩, st', fun b hb => (hf b hb).1⟩⟩
  done := by
    intro X hP hw hK hc i pins s σ H E I hf st hg
    subst hP hw hK
    obtain ⟨xs, hq, hx⟩ := hg
    obtain ⟨its, rv, p, hz⟩ := I.list hq
    obtain ⟨f0, f1, f2, f3, f4, f5⟩ := hf it (by simp)
    have hl := rv.length
    exact wpAny_pyNext_list_end (I.ok.hd hc) st p.isList (by simp; omega) fun h' eb => ⟨rfl, I.turned (t' := s.toks) (fun b o hb e => eb b o hb e) f0 f1 f3 f4 f5⟩
  self := fun _ _ _ _ _ st h => wpAny_pyIter_listiter st h
theorem turn_tuple {P : Program} {w : World} {K : PySem.W.Frag} {tg : Expr} (a it : Addr) : Turn P w K tg (Itt K a) [it] it (fun i h => h.IsTupleIter it a i) where
  mem := by simp
  obj := fun i h st b hb => by
    have e : b = it := by simpa using hb
    subst e
    obtain ⟨o, e, c, d⟩ := st
    exact ⟨o, e, fun v z => by rw [d] at z; cases z⟩
  keep := fun i h h' st k => st.at fun o e => k it (by simp) o e
  item := by
    intro X hP hw hK hc i pins s σ H E I hf st hg
    subst hP hw hK
    obtain ⟨xs, x, hq, hx⟩ := hg
    obtain ⟨its, rv, p, hz⟩ := I.tuple hq
    obtain ⟨u, hu, ru⟩ := rv.get hx
    obtain ⟨f0, f1, f2, f3, f4, f5⟩ := hf it (by simp)
    refine wpAny_pyNext_tuple_item st (show s.heap.IsTuple a its.toArray from p) (x := u) (by simpa using hu) fun h' st' sb => ?_
    have I1 : Inv X pins σ H { s with heap := h' } := I.turned (t' := s.toks) (fun b o hb e => (sb.2 b hb).trans e) f0 f1 f3 f4 f5
    obtain ⟨o, e, c, d⟩ := id st'
    exact ⟨u, rfl, go_of (s := { s with heap := h' }) e c d (by decide) ⟨x, H, I1, ru, ⟨rfl, fun ys hy => by rw [I.tuple_inj hy hq]; exact hx⟩, st', fun b hb => (hf b hb).1⟩⟩
  done := by
    intro X hP hw hK hc i pins s σ H E I hf st hg
    subst hP hw hK
    obtain ⟨xs, hq, hx⟩ := hg
    obtain ⟨its, rv, p, hz⟩ := I.tuple hq
    obtain ⟨f0, f1, f2, f3, f4, f5⟩ := hf it (by simp)
    have hl := rv.length
    exact wpAny_pyNext_tuple_end (I.ok.hd hc) st (show s.heap.IsTuple a its.toArray from p) (by simp; omega) fun h' eb => ⟨rfl, I.turned (t' := s.toks) (fun b o hb e => eb b o hb e) f0 f1 f3 f4 f5⟩
  self := fun _ _ _ _ _ st h => wpAny_pyIter_tupleiter st h
theorem turn_range {P : Program} {w : World} {K : PySem.W.Frag} {tg : Expr} (it : Addr) (lo : Int) (n : Nat) : Turn P w K tg (Itr lo n) [it] it (fun i h => IsRangeIter h it (lo + (i : Nat) * 1) ((n : Int) - (i : Nat)) 1) where
  mem := by simp
  obj := fun i h st b hb => by
    have e : b = it := by simpa using hb
    subst e
    exact ⟨_, st, fun v z => by
      have z' : Data.fields _ = Data.cell v := z
      cases z'⟩
  keep := fun i h h' st k => k it (by simp) _ st
  item := by
    intro X hP hw hK hc i pins s σ H E I hf st hg
    subst hP hw hK
    obtain ⟨f0, f1, f2, f3, f4, f5⟩ := hf it (by simp)
    have W := Walks.range (prog := X.prog) (w := X.w) (I.ok.hd hc) it lo 1 n
    refine W.item i s _ _ hg st fun v h' tk hv st' kk => ?_
    obtain ⟨t, rfl⟩ := hv
    have I1 : Inv X pins σ H { s with heap := h', toks := tk } := I.turned (fun b o hb e => kk b o (by simpa using hb) e) f0 f1 f3 f4 f5
    refine ⟨_, rfl, go_of (s := { s with heap := h', toks := tk }) (n := "range_iterator") st' rfl rfl (by decide) ⟨.int (lo + i), H, I1, ⟨t, ?_⟩, ⟨rfl, rfl⟩, st', fun b hb => (hf b hb).1⟩⟩
    rw [Int.mul_one]
  done := by
    intro X hP hw hK hc i pins s σ H E I hf st hg
    subst hP hw hK
    obtain ⟨f0, f1, f2, f3, f4, f5⟩ := hf it (by simp)
    exact wpAny_pyNext_range_end (I.ok.hd hc) st (by have : n ≤ i := hg; omega) fun h' eb => ⟨rfl, I.turned (t' := s.toks) (fun b o hb e => eb b o hb e) f0 f1 f3 f4 f5⟩
  self := fun _ _ _ _ _ st h => wpAny_pyIter_rangeiter st h
end L2
namespace L2
open PySem PySem.Spec PyProof.Rows
section
variable {X : Cx} {tg : Expr}
noncomputable def iList (K : PySem.W.Frag) (tl : TE) : TI := fun σ H R => tl σ H fun x H1 => ∃ a, x = .ref a ∧ (∃ xs, SqL K H1 a xs) ∧ R (Itl K a) H1
noncomputable def iTup (K : PySem.W.Frag) (tl : TE) : TI := fun σ H R => tl σ H fun x H1 => ∃ a, x = .ref a ∧ (∃ xs, SqT K H1 a xs) ∧ R (Itt K a) H1
theorem pi_list {l : Expr} {tl : TE} (hl : PE X l tl) : PI X tg l (iList X.K tl) := by
  intro pins s σ H R I h
  refine thn (hl pins s σ H _ I h) fun v s1 ⟨x, H1, I1, r1, q1⟩ => ?_
  obtain ⟨a, e, ⟨xs, hq⟩, q⟩ := q1
  subst e
  cases r1
  obtain ⟨its, rv, p, hz⟩ := I1.list hq
  refine wpAny_pyIter_list p.isList ?_
  refine ⟨s1.heap.objs.size, [s1.heap.objs.size], _, _, H1, rfl, I1.kept (t' := s1.toks) fun b o e => Heap.get?_push_of_some _ e, turn_list a _, ⟨_, Heap.get?_push_size _ rfl, rfl, rfl⟩, fun b hb => ?_, q⟩
  have e : b = s1.heap.objs.size := by simpa using hb
  subst e
  exact I1.fpOk (Nat.le_refl _) (I1.hok.fresh (Nat.le_refl _))
theorem pi_tup {l : Expr} {tl : TE} (hl : PE X l tl) : PI X tg l (iTup X.K tl) := by
  intro pins s σ H R I h
  refine thn (hl pins s σ H _ I h) fun v s1 ⟨x, H1, I1, r1, q1⟩ => ?_
  obtain ⟨a, e, ⟨xs, hq⟩, q⟩ := q1
  subst e
  cases r1
  obtain ⟨its, rv, p, hz⟩ := I1.tuple hq
  refine wpAny_pyIter_tuple (show s1.heap.IsTuple a its.toArray from p) ?_
  refine ⟨s1.heap.objs.size, [s1.heap.objs.size], _, _, H1, rfl, I1.kept (t' := s1.toks) fun b o e => Heap.get?_push_of_some _ e, turn_tuple a _, ⟨_, Heap.get?_push_size _ rfl, rfl, rfl⟩, fun b hb => ?_, q⟩
  have e : b = s1.heap.objs.size := by simpa using hb
  subst e
  exact I1.fpOk (Nat.le_refl _) (I1.hok.fresh (Nat.le_refl _))
theorem range_it {pins : List (Addr × Obj)} {σ : St} {H : Hp} {s : Shared} {R : It → Hp → Prop} {E : Value → Shared → Prop} {lo hi : Int} {t u v : Tok} {tk : Nat} (I : Inv X pins σ H s) (h1 : -(2 ^ 62) ≤ lo) (h2 : lo < 2 ^ 62) (h3 : -(2 ^ 62) ≤ hi) (h4 : hi < 2 ^ 62)
    (q : R (Itr lo (hi - lo).toNat) H) : wpAny (model X.prog X.w) X.A (pyIter (.ref s.heap.objs.size)) (PIE X pins σ tg R) E { s with heap := s.heap.push { cls := .type "range", data := .fields #[.int lo t, .int hi u, .int 1 v] }, toks := tk } := by
  refine wpAny_pyIter_range (IsRange.new ..) (small_one h1 h2 h3 h4) ?_
  have I1 : Inv X pins σ H { s with heap := s.heap.push { cls := .type "range", data := .fields #[.int lo t, .int hi u, .int 1 v] }, toks := tk } := I.kept fun b o e => Heap.get?_push_of_some _ e
  refine ⟨(s.heap.push { cls := .type "range", data := .fields #[.int lo t, .int hi u, .int 1 v] }).objs.size, [(s.heap.push { cls := .type "range", data := .fields #[.int lo t, .int hi u, .int 1 v] }).objs.size], _, _, H, rfl,
    I1.kept (t' := tk) fun b o e => Heap.get?_push_of_some _ e, turn_range _ lo (hi - lo).toNat, ?_, fun b hb => ?_, q⟩
  · have e1 : lo + ((0 : Nat) : Int) * 1 = lo := by simp
    have e2 : (((hi - lo).toNat : Nat) : Int) - ((0 : Nat) : Int) = Builtin.Range.rangeSize lo hi 1 := by rw [rangeSize_one]; split <;> omega
    show IsRangeIter _ _ (lo + ((0 : Nat) : Int) * 1) ((((hi - lo).toNat : Nat) : Int) - ((0 : Nat) : Int)) 1
    rw [e1, e2]
    exact Heap.get?_push_size _ rfl
  · have e : b = (s.heap.push { cls := .type "range", data := .fields #[.int lo t, .int hi u, .int 1 v] }).objs.size := by simpa using hb
    subst e
    exact I1.fpOk (Nat.le_refl _) (I1.hok.fresh (Nat.le_refl _))
noncomputable def iRng1 (ta : TA) : TI := fun σ H R => ta σ H fun vs H1 => ∃ j : Int, vs = [.int j] ∧ -(2 ^ 62) ≤ j ∧ j < 2 ^ 62 ∧ R (Itr 0 j.toNat) H1
noncomputable def iRng2 (ta : TA) : TI := fun σ H R => ta σ H fun vs H1 => ∃ i j : Int, vs = [.int i, .int j] ∧ (-(2 ^ 62) ≤ i ∧ i < 2 ^ 62 ∧ -(2 ^ 62) ≤ j ∧ j < 2 ^ 62) ∧ R (Itr i (j - i).toNat) H1
theorem pi_range1 {a : Expr} {ta : TA} {p pos : Pos} (hg : Gl X "range") (hm : X.mg "range" = none) (ha : PA X [a] ta) (hs : starEach [a] X.env = [(false, eval a X.env)] := by rfl) : PI X tg (.Call (.Name "range" p) [a] [] pos) (iRng1 ta) := by
  intro pins s σ H R I h
  refine Call_ (ld_blt I hg hm boot_range (PyProof.Rows.callWith_type1 (thn (ha pos pins s σ H _ I h) fun us s1 ⟨vs, H1, I1, r1, q1⟩ => ?_) hs rfl))
  obtain ⟨j, e, q1, q2, q⟩ := q1
  subst e
  cases r1 with
  | cons r rr =>
    cases rr
    obtain ⟨t, rfl⟩ := r
    exact call_range_1 (range_it I1 (by omega) (by omega) q1 q2 (by simpa using q))
noncomputable def tFor (wi : TI) (g : TG) (tb : TS) : TS := fun D σ H => wi σ H fun J H1 => ∃ W : Nat → Nat → St → Hp → Prop, (∃ m, W 0 m σ H1) ∧ ∀ i m σ H, W i m σ H →
  (J.stop i H ∧ D.nx σ H) ∨ (J.go i H ∧ ∃ N : St → Hp → Prop, (∀ σ' H', N σ' H' → ∃ m', m' < m ∧ W (i + 1) m' σ' H') ∧ ∀ x H', J.yld i H x H' → g x σ H' fun σ2 H2 => tb { D with nx := N, ct := N, bk := D.nx } σ2 H2)
noncomputable def pinsAt (fp : List Addr) (h : Heap) : List (Addr × Obj) := fp.filterMap fun b => (h.get? b).map fun o => (b, o)
theorem mem_pinsAt {fp : List Addr} {h : Heap} {b : Addr} {o : Obj} (hb : b ∈ fp) (e : h.get? b = some o) : (b, o) ∈ pinsAt fp h := List.mem_filterMap.mpr ⟨b, hb, by rw [e]; rfl⟩
theorem of_pinsAt {fp : List Addr} {h : Heap} {p : Addr × Obj} (hp : p ∈ pinsAt fp h) : p.1 ∈ fp ∧ h.get? p.1 = some p.2 := by
  obtain ⟨b, hb, e⟩ := List.mem_filterMap.mp hp
  cases q : h.get? b with
  | none => rw [q] at e; cases e
  | some o =>
    rw [q] at e
    have e' : (b, o) = p := Option.some.inj e
    subst e'
    exact ⟨hb, q⟩
theorem Inv.pinned {pins : List (Addr × Obj)} {σ : St} {H : Hp} {s : Shared} {fp : List Addr} (I : Inv X pins σ H s) (hf : ∀ b ∈ fp, FpOk X pins H b) (ho : ∀ b ∈ fp, ∃ o, s.heap.get? b = some o ∧ ∀ v, o.data ≠ .cell v) : Inv X (pins ++ pinsAt fp s.heap) σ H s :=
  I.pins_of fun p hp => (List.mem_append.mp hp).elim (fun z => I.pin p (List.mem_append_right _ z)) fun z => by
    obtain ⟨hb, e⟩ := of_pinsAt z
    obtain ⟨f0, f1, f2, _⟩ := hf p.1 hb
    obtain ⟨o, e', d⟩ := ho p.1 hb
    rw [e] at e'; cases e'
    exact ⟨e, f0, f1, f2, d⟩
theorem Inv.unpinned {pins pl : List (Addr × Obj)} {σ : St} {H : Hp} {s : Shared} (I : Inv X (pins ++ pl) σ H s) : Inv X pins σ H s := I.pins_of fun p hp => I.pin p (List.mem_append_right _ (List.mem_append_left _ hp))
theorem ps_for {iter : Expr} {body : List Stmt} {wi : TI} {g : TG} {tb : TS} {pos : Pos} (hp : PassesOwn (model X.prog X.w) X.A X.env X.xe) (hc : X.calm = true) (hi : PI X tg iter wi) (hg : PG X tg g) (hb : PSs X body tb)
    (hs : ∀ x, foldedSetIterable iter X.env x = pure x := by intro _; rfl) : PS X (.For tg iter body [] pos) (tFor wi g tb) := by
  intro pins s σ H D I h
  refine wpAny_For (thn (hi pins s σ H _ I h) fun v s1 h1 => thn h1 fun itv s2 h2 => ?_) hs
  obtain ⟨it, fp, tn, J, H2, e, I2, T, st2, f2, W, ⟨m0, w0⟩, turn⟩ := h2
  subst e
  -- what stays true of the iterator's objects through the loop
  have stat : ∀ {H' : Hp}, (∀ b ∈ fp, H' b = none) → ∀ b ∈ fp, FpOk X pins H' b := fun hn b hb => ⟨hn b hb, (f2 b hb).2⟩
  refine codeAny_forLoop_any (fun n s' => ∃ i σ' H', Inv X pins σ' H' s' ∧ tn i s'.heap ∧ (∀ b ∈ fp, H' b = none) ∧ W i n σ' H') ?_ m0 ⟨0, σ, H2, I2, st2, fun b hb => (f2 b hb).1, w0⟩
  rintro n s3 ⟨i, σ3, H3, I3, st3, fr3, w3⟩
  rcases turn i n σ3 H3 w3 with ⟨stop, qn⟩ | ⟨go, N, hN, step⟩
  · refine wpAny_passesOwn hp (thn (T.done X rfl rfl rfl hc i pins s3 σ3 H3 X.xe I3 (stat fr3) st3 stop) fun r s4 ⟨hr, I4⟩ => ?_)
    subst hr
    exact wpAny_execs_nil ⟨σ3, H3, I4, qn⟩
  · refine wpAny_passesOwn hp (thn (T.item X rfl rfl rfl hc i pins s3 σ3 H3 X.xe I3 (stat fr3) st3 go) fun r s4 ⟨u, hr, h4⟩ => ?_)
    subst hr
    refine wpAny_passesOwn hp (thn h4 fun _ s5 ⟨x, H5, I5, r5, y5, st5, fr5⟩ => ?_)
    have I5' := I5.pinned (stat fr5) (T.obj _ _ st5)
    refine wpAny_passesOwn hp (thn (hg _ s5 σ3 H5 x u _ I5' r5 (step x H5 y5)) fun _ s6 ⟨σ6, H6, I6, q6⟩ => ?_)
    refine wpAny_passesOwn hp (thn (hb _ s6 σ6 H6 _ I6 q6) fun f s7 q7 => ?_)
    have again : ∀ {σ7 : St} {H7 : Hp}, Inv X (pins ++ pinsAt fp s5.heap) σ7 H7 s7 → N σ7 H7 → ∃ m, m < n ∧ ∃ i σ' H', Inv X pins σ' H' s7 ∧ tn i s7.heap ∧ (∀ b ∈ fp, H' b = none) ∧ W i m σ' H' := fun {σ7 H7} I7 n7 => by
      obtain ⟨m', hm, w7⟩ := hN σ7 H7 n7
      refine ⟨m', hm, i + 1, σ7, H7, I7.unpinned, T.keep _ _ _ st5 fun b hb o e => (I7.pin (b, o) (List.mem_append_right _ (List.mem_append_right _ (mem_pinsAt hb e)))).1, fun b hb => ?_, w7⟩
      obtain ⟨o, e, d⟩ := T.obj _ _ st5 b hb
      exact (I7.pin (b, o) (List.mem_append_right _ (List.mem_append_right _ (mem_pinsAt hb e)))).2.1
    cases f with
    | next => obtain ⟨σ7, H7, I7, n7⟩ := q7; exact again I7 n7
    | cont => obtain ⟨σ7, H7, I7, n7⟩ := q7; exact again I7 n7
    | brk => obtain ⟨σ7, H7, I7, q7⟩ := q7; exact ⟨σ7, H7, I7.unpinned, q7⟩
    | ret v => obtain ⟨x7, σ7, H7, I7, r7, q7⟩ := q7; exact ⟨x7, σ7, H7, I7.unpinned, r7, q7⟩
end
theorem for_list {K : PySem.W.Frag} {a : Addr} {xs : List V} {g : TG} {tb : TS} {D : Ends} {σ : St} {H : Hp} (Pv : Nat → St → Hp → Prop) (h0 : Pv 0 σ H) (hl : ∀ i σ H, i ≤ xs.length → Pv i σ H → SqL K H a xs)
    (hs : ∀ i x σ H, xs[i]? = some x → Pv i σ H → g x σ H fun σ2 H2 => tb { D with nx := Pv (i + 1), ct := Pv (i + 1), bk := D.nx } σ2 H2) (hd : ∀ σ H, Pv xs.length σ H → D.nx σ H) :
    ∃ W : Nat → Nat → St → Hp → Prop, (∃ m, W 0 m σ H) ∧ ∀ i m σ H, W i m σ H →
      ((Itl K a).stop i H ∧ D.nx σ H) ∨ ((Itl K a).go i H ∧ ∃ N : St → Hp → Prop, (∀ σ' H', N σ' H' → ∃ m', m' < m ∧ W (i + 1) m' σ' H') ∧ ∀ x H', (Itl K a).yld i H x H' → g x σ H' fun σ2 H2 => tb { D with nx := N, ct := N, bk := D.nx } σ2 H2) := by
  refine ⟨fun i m σ H => m = xs.length - i ∧ i ≤ xs.length ∧ Pv i σ H, ⟨xs.length, by simp, Nat.zero_le _, h0⟩, ?_⟩
  rintro i m σ H ⟨rfl, hi, p⟩
  have q := hl i σ H hi p
  by_cases hlt : i < xs.length
  · refine .inr ⟨⟨xs, xs[i], q, by simp [hlt]⟩, Pv (i + 1), fun σ' H' p' => ⟨xs.length - (i + 1), by omega, rfl, hlt, p'⟩, fun x H' y => ?_⟩
    obtain ⟨e, y⟩ := y
    subst e
    exact hs i x σ _ (y xs q) p
  · have e : i = xs.length := by omega
    subst e
    exact .inl ⟨⟨xs, q, Nat.le_refl _⟩, hd σ H p⟩
theorem for_range {lo : Int} {n : Nat} {g : TG} {tb : TS} {D : Ends} {σ : St} {H : Hp} (Pv : Nat → St → Hp → Prop) (h0 : Pv 0 σ H)
    (hs : ∀ i σ H, i < n → Pv i σ H → g (.int (lo + i)) σ H fun σ2 H2 => tb { D with nx := Pv (i + 1), ct := Pv (i + 1), bk := D.nx } σ2 H2) (hd : ∀ σ H, Pv n σ H → D.nx σ H) :
    ∃ W : Nat → Nat → St → Hp → Prop, (∃ m, W 0 m σ H) ∧ ∀ i m σ H, W i m σ H →
      ((Itr lo n).stop i H ∧ D.nx σ H) ∨ ((Itr lo n).go i H ∧ ∃ N : St → Hp → Prop, (∀ σ' H', N σ' H' → ∃ m', m' < m ∧ W (i + 1) m' σ' H') ∧ ∀ x H', (Itr lo n).yld i H x H' → g x σ H' fun σ2 H2 => tb { D with nx := N, ct := N, bk := D.nx } σ2 H2) := by
  refine ⟨fun i m σ H => m = n - i ∧ i ≤ n ∧ Pv i σ H, ⟨n, by simp, Nat.zero_le _, h0⟩, ?_⟩
  rintro i m σ H ⟨rfl, hi, p⟩
  by_cases hlt : i < n
  · refine .inr ⟨hlt, Pv (i + 1), fun σ' H' p' => ⟨n - (i + 1), by omega, rfl, hlt, p'⟩, fun x H' y => ?_⟩
    obtain ⟨e, y⟩ := y
    subst e y
    exact hs i σ _ hlt p
  · have e : i = n := by omega
    subst e
    exact .inl ⟨Nat.le_refl _, hd σ H p⟩
end L2
namespace L2
open PySem PySem.Spec PyProof.Rows
noncomputable abbrev R2 := V → V → Hp → VK → Prop
noncomputable def OpR (X : Cx) (f : Value → Value → Sem Value) (r : R2) : Prop :=
  ∀ (pins : List (Addr × Obj)) (s : Shared) (σ : St) (H : Hp) (x y : V) (v u : Value) (Q : VK), Inv X pins σ H s → RelV x v → RelV y u → r x y H Q →
    wpAny (model X.prog X.w) X.A (f v u) (EP X pins σ Q) X.xe s
noncomputable def UnR (X : Cx) (f : Value → Sem Value) (r : V → Hp → VK → Prop) : Prop :=
  ∀ (pins : List (Addr × Obj)) (s : Shared) (σ : St) (H : Hp) (x : V) (v : Value) (Q : VK), Inv X pins σ H s → RelV x v → r x H Q →
    wpAny (model X.prog X.w) X.A (f v) (EP X pins σ Q) X.xe s
noncomputable def CallR (X : Cx) (f : Value) (r : List V → Hp → VK → Prop) : Prop :=
  ∀ (pins : List (Addr × Obj)) (s : Shared) (σ : St) (H : Hp) (xs : List V) (us : List Value) (Q : VK), Inv X pins σ H s → Vals xs us → r xs H Q →
    wpAny (model X.prog X.w) X.A (call f us) (EP X pins σ Q) X.xe s
noncomputable def TruR (X : Cx) (r : V → Hp → (Bool → Hp → Prop) → Prop) : Prop :=
  ∀ (pins : List (Addr × Obj)) (s : Shared) (σ : St) (H : Hp) (x : V) (v : Value) (Q : Bool → Hp → Prop), Inv X pins σ H s → RelV x v → r x H Q →
    wpAny (model X.prog X.w) X.A (truthy v) (TP X pins σ Q) X.xe s
noncomputable def tOp (r : R2) (ta tb : TE) : TE := fun σ H Q => ta σ H fun x H1 => tb σ H1 fun y H2 => r x y H2 Q
noncomputable def tUn (r : V → Hp → VK → Prop) (ta : TE) : TE := fun σ H Q => ta σ H fun x H1 => r x H1 Q
noncomputable def rI (C : Int → Int → Prop) (g : Int → Int → V) : R2 := fun x y H Q => ∃ i j, x = .int i ∧ y = .int j ∧ C i j ∧ Q (g i j) H
noncomputable def rI0 (g : Int → Int → V) : R2 := fun x y H Q => ∃ i j, x = .int i ∧ y = .int j ∧ Q (g i j) H
noncomputable def rU (g : Int → V) : V → Hp → VK → Prop := fun x H Q => ∃ i, x = .int i ∧ Q (g i) H
section
variable {X : Cx} {a b c : Expr} {ta tb tc : TE} {pos : Pos}
theorem binT (ha : PE X a ta) (hb : PE X b tb) {pins : List (Addr × Obj)} {s : Shared} {σ : St} {H : Hp} {R : V → V → Hp → Prop} (I : Inv X pins σ H s)
    (h : ta σ H fun x H1 => tb σ H1 fun y H2 => R x y H2) {Q : Value → Shared → Prop} {f : Value → Value → Sem Value}
    (hf : ∀ v u s2 x y H2, Inv X pins σ H2 s2 → RelV x v → RelV y u → R x y H2 → wpAny (model X.prog X.w) X.A (f v u) Q X.xe s2) :
    wpAny (model X.prog X.w) X.A (eval a X.env) (fun v s₁ => wpAny (model X.prog X.w) X.A (eval b X.env) (fun u s₂ => wpAny (model X.prog X.w) X.A (f v u) Q X.xe s₂) X.xe s₁) X.xe s := by
  refine thn (ha pins s σ H _ I h) fun v s1 ⟨x, H1, I1, r1, q1⟩ => ?_
  refine thn (hb pins s1 σ H1 _ I1 q1) fun u s2 ⟨y, H2, I2, r2, q2⟩ => ?_
  exact hf v u s2 x y H2 I2 r1 r2 q2
theorem pe_op {op : Operator} {r : R2} (ho : OpR X (binaryOp op) r) (ha : PE X a ta) (hb : PE X b tb) : PE X (.BinOp a op b pos) (tOp r ta tb) := by
  intro pins s σ H Q I h
  exact wpAny_BinOp (binT ha hb I h fun v u s2 x y H2 I2 rx ry q => ho pins s2 σ H2 x y v u Q I2 rx ry q)
theorem pe_un {op : UnaryOp} {r : V → Hp → VK → Prop} (ho : UnR X (unaryOp op) r) (ha : PE X a ta) : PE X (.UnaryOp op a pos) (tUn r ta) := by
  intro pins s σ H Q I h
  exact UnaryOp_ (thn (ha pins s σ H _ I h) fun v s1 ⟨x, H1, I1, r1, q1⟩ => ho pins s1 σ H1 x v Q I1 r1 q1)
theorem opI {f : Value → Value → Sem Value} {C : Int → Int → Prop} {g : Int → Int → Int}
    (rule : ∀ (i j : Int) (t u : Tok) (s : Shared) (Q : Value → Shared → Prop) (E : Value → Shared → Prop), C i j → Q (.int (g i j) s.toks) { s with toks := s.toks + 1 } → wpAny (model X.prog X.w) X.A (f (.int i t) (.int j u)) Q E s) :
    OpR X f (rI C fun i j => .int (g i j)) := by
  intro pins s σ H x y v u Q I rx ry h
  obtain ⟨i, j, rfl, rfl, hc, q⟩ := h
  obtain ⟨t, rfl⟩ := rx
  obtain ⟨t', rfl⟩ := ry
  exact rule i j t t' s _ _ hc ⟨.int (g i j), H, I.tok _, ⟨_, rfl⟩, q⟩
theorem opI0 {f : Value → Value → Sem Value} {g : Int → Int → Int}
    (rule : ∀ (i j : Int) (t u : Tok) (s : Shared) (Q : Value → Shared → Prop) (E : Value → Shared → Prop), Q (.int (g i j) s.toks) { s with toks := s.toks + 1 } → wpAny (model X.prog X.w) X.A (f (.int i t) (.int j u)) Q E s) :
    OpR X f (rI0 fun i j => .int (g i j)) := by
  intro pins s σ H x y v u Q I rx ry h
  obtain ⟨i, j, rfl, rfl, q⟩ := h
  obtain ⟨t, rfl⟩ := rx
  obtain ⟨t', rfl⟩ := ry
  exact rule i j t t' s _ _ ⟨.int (g i j), H, I.tok _, ⟨_, rfl⟩, q⟩
theorem opB0 {f : Value → Value → Sem Value} {g : Int → Int → Bool}
    (rule : ∀ (i j : Int) (t u : Tok) (s : Shared) (Q : Value → Shared → Prop) (E : Value → Shared → Prop), Q (.bool (g i j)) s → wpAny (model X.prog X.w) X.A (f (.int i t) (.int j u)) Q E s) :
    OpR X f (rI0 fun i j => .bl (g i j)) := by
  intro pins s σ H x y v u Q I rx ry h
  obtain ⟨i, j, rfl, rfl, q⟩ := h
  obtain ⟨t, rfl⟩ := rx
  obtain ⟨t', rfl⟩ := ry
  exact rule i j t t' s _ _ ⟨.bl (g i j), H, I, rfl, q⟩
noncomputable def CDiv (i j : Int) : Prop := 0 < j ∧ j < 1073741824
noncomputable def CDivN (i j : Int) : Prop := j ≠ 0 ∧ j.natAbs < 1073741824
noncomputable def CPow (i j : Int) : Prop := 0 ≤ j ∧ j ≤ 1000000 ∧ i.natAbs < 2 ^ 64
noncomputable def CMul (i j : Int) : Prop := (-(2 ^ 64) < i ∧ i < 2 ^ 64) ∨ (-(2 ^ 64) < j ∧ j < 2 ^ 64)
theorem CMul.ok {i j : Int} (h : CMul i j) : IntMulOk i j := by
  rcases h with ⟨h1, h2⟩ | ⟨h1, h2⟩
  · exact .of_left (intBits_le_64 h1 h2)
  · exact .of_right (intBits_le_64 h1 h2)
theorem op_add : OpR X (binaryOp .Add) (rI0 fun i j => .int (i + j)) := opI0 fun _ _ _ _ _ _ _ q => add_int q
theorem op_sub : OpR X (binaryOp .Sub) (rI0 fun i j => .int (i - j)) := opI0 fun _ _ _ _ _ _ _ q => sub_int q
theorem op_mul : OpR X (binaryOp .Mult) (rI CMul fun i j => .int (i * j)) := opI fun _ _ _ _ _ _ _ hc q => mul_int q hc.ok
theorem op_fdiv : OpR X (binaryOp .FloorDiv) (rI CDiv fun i j => .int (i / j)) := opI fun i j _ _ _ _ _ hc q => by
  have h1 : (0 : Int) < j := hc.1
  have h2 : j < 1073741824 := hc.2
  exact floordiv_int (by omega) (by rw [Int.fdiv_eq_ediv_of_nonneg i (by omega)]; exact q) (.inl (PyProof.noPylong_small (by omega)))
theorem op_mod : OpR X (binaryOp .Mod) (rI (fun _ j => 0 < j) fun i j => .int (i % j)) := opI fun i j _ _ _ _ _ hc q => by
  have h1 : (0 : Int) < j := hc
  exact mod_int' (by omega) (by rw [Int.fmod_eq_emod_of_nonneg i (by omega)]; exact q)
theorem op_pow : OpR X (binaryOp .Pow) (rI CPow fun i j => .int (i ^ j.toNat)) := opI fun _ _ _ _ _ _ _ hc q => pow_int_small hc.1 hc.2.1 hc.2.2 q
theorem unI {f : Value → Sem Value} {g : Int → Int}
    (rule : ∀ (i : Int) (t : Tok) (s : Shared) (Q : Value → Shared → Prop) (E : Value → Shared → Prop), Q (.int (g i) s.toks) { s with toks := s.toks + 1 } → wpAny (model X.prog X.w) X.A (f (.int i t)) Q E s) :
    UnR X f (rU fun i => .int (g i)) := by
  intro pins s σ H x v Q I rx h
  obtain ⟨i, rfl, q⟩ := h
  obtain ⟨t, rfl⟩ := rx
  exact rule i t s _ _ ⟨.int (g i), H, I.tok _, ⟨_, rfl⟩, q⟩
theorem un_neg : UnR X (unaryOp .USub) (rU fun i => .int (-i)) := unI fun _ _ _ _ _ q => neg_int q
end
noncomputable def scal : V → V → Bool
  | .non, .non => true | .non, .int _ => true | .int _, .non => true | .non, .bl _ => true | .bl _, .non => true | .non, .str _ => true | .str _, .non => true
  | .int _, .int _ => true | .bl _, .bl _ => true | .str _, .str _ => true | .byt _, .byt _ => true
  | .int _, .str _ => true | .str _, .int _ => true | .bl _, .str _ => true | .str _, .bl _ => true
  | _, _ => false
noncomputable def rEq : R2 := fun x y H Q => scal x y = true ∧ Q (.bl (decide (x = y))) H
noncomputable def rNe : R2 := fun x y H Q => scal x y = true ∧ Q (.bl (!decide (x = y))) H
theorem dec_int {i j : Int} : decide (V.int i = V.int j) = (i == j) := by
  rw [Bool.eq_iff_iff]
  simp
theorem dec_bl {i j : Bool} : decide (V.bl i = V.bl j) = (i == j) := by
  rw [Bool.eq_iff_iff]
  simp
theorem dec_str {i j : Str} : decide (V.str i = V.str j) = (i == j) := by
  rw [Bool.eq_iff_iff]
  simp
theorem dec_byt {i j : Array UInt8} : decide (V.byt i = V.byt j) = (i.toList == j.toList) := by
  rw [Bool.eq_iff_iff]
  cases i
  cases j
  simp
section
variable {X : Cx} {a b c : Expr} {ta tb tc : TE} {pos : Pos}
theorem fin_bl {pins : List (Addr × Obj)} {σ : St} {H : Hp} {s : Shared} {Q : VK} {k k' : Bool} (I : Inv X pins σ H s) (q : Q (.bl k) H) (e : k = k') : EP X pins σ Q (.bool k') s := by
  subst e
  exact ⟨.bl k, H, I, rfl, q⟩
theorem op_eq : OpR X (compareOp .Eq) rEq := by
  intro pins s σ H x y v u Q I rx ry h
  obtain ⟨hs, q⟩ := h
  cases x with
  | non =>
    cases rx
    cases y with
    | non => cases ry; exact PySem.EqNone.eq_none_none (fin_bl I q (by simp))
    | bl j => cases ry; exact PySem.EqNone.eq_none_bool (fin_bl I q (by simp))
    | int j => obtain ⟨t', rfl⟩ := ry; exact PySem.EqNone.eq_none_int (fin_bl I q (by simp))
    | str j => obtain ⟨t', rfl⟩ := ry; exact PySem.EqNone.eq_none_str (fin_bl I q (by simp))
    | _ => exact absurd (show false = true from hs) Bool.false_ne_true
  | bl i =>
    cases rx
    cases y with
    | non => cases ry; exact PySem.EqNone.eq_bool_none (fin_bl I q (by simp))
    | bl j => cases ry; exact eq_bool (fin_bl I q dec_bl)
    | str j => obtain ⟨t', rfl⟩ := ry; exact PySem.EqMixed.eq_bool_str (fin_bl I q (by simp))
    | _ => exact absurd (show false = true from hs) Bool.false_ne_true
  | int i =>
    obtain ⟨t, rfl⟩ := rx
    cases y with
    | non => cases ry; exact PySem.EqNone.eq_int_none (fin_bl I q (by simp))
    | int j => obtain ⟨t', rfl⟩ := ry; exact eq_int (fin_bl I q dec_int)
    | str j => obtain ⟨t', rfl⟩ := ry; exact PySem.EqMixed.eq_int_str (fin_bl I q (by simp))
    | _ => exact absurd (show false = true from hs) Bool.false_ne_true
  | str i =>
    obtain ⟨t, rfl⟩ := rx
    cases y with
    | non => cases ry; exact PySem.EqNone.eq_str_none (fin_bl I q (by simp))
    | bl j => cases ry; exact PySem.EqMixed.eq_str_bool (fin_bl I q (by simp))
    | int j => obtain ⟨t', rfl⟩ := ry; exact PySem.EqMixed.eq_str_int (fin_bl I q (by simp))
    | str j => obtain ⟨t', rfl⟩ := ry; exact eq_str (fin_bl I q dec_str)
    | _ => exact absurd (show false = true from hs) Bool.false_ne_true
  | byt i =>
    obtain ⟨t, rfl⟩ := rx
    cases y with
    | byt j => obtain ⟨t', rfl⟩ := ry; exact PySem.W.eq_bytes (fin_bl I q dec_byt)
    | _ => exact absurd (show false = true from hs) Bool.false_ne_true
  | _ => cases y <;> exact absurd (show false = true from hs) Bool.false_ne_true
theorem op_ne : OpR X (compareOp .NotEq) rNe := by
  intro pins s σ H x y v u Q I rx ry h
  obtain ⟨hs, q⟩ := h
  cases x with
  | non =>
    cases rx
    cases y with
    | non => cases ry; exact PySem.EqNone.ne_none_none (fin_bl I q (by simp))
    | bl j => cases ry; exact PySem.EqNone.ne_none_bool (fin_bl I q (by simp))
    | int j => obtain ⟨t', rfl⟩ := ry; exact PySem.EqNone.ne_none_int (fin_bl I q (by simp))
    | str j => obtain ⟨t', rfl⟩ := ry; exact PySem.EqNone.ne_none_str (fin_bl I q (by simp))
    | _ => exact absurd (show false = true from hs) Bool.false_ne_true
  | bl i =>
    cases rx
    cases y with
    | non => cases ry; exact PySem.EqNone.ne_bool_none (fin_bl I q (by simp))
    | bl j => cases ry; exact ne_bool (fin_bl I q (congrArg not dec_bl))
    | str j => obtain ⟨t', rfl⟩ := ry; exact PySem.EqMixed.ne_bool_str (fin_bl I q (by simp))
    | _ => exact absurd (show false = true from hs) Bool.false_ne_true
  | int i =>
    obtain ⟨t, rfl⟩ := rx
    cases y with
    | non => cases ry; exact PySem.EqNone.ne_int_none (fin_bl I q (by simp))
    | int j => obtain ⟨t', rfl⟩ := ry; exact ne_int (fin_bl I q (congrArg not dec_int))
    | str j => obtain ⟨t', rfl⟩ := ry; exact PySem.EqMixed.ne_int_str (fin_bl I q (by simp))
    | _ => exact absurd (show false = true from hs) Bool.false_ne_true
  | str i =>
    obtain ⟨t, rfl⟩ := rx
    cases y with
    | non => cases ry; exact PySem.EqNone.ne_str_none (fin_bl I q (by simp))
    | bl j => cases ry; exact PySem.EqMixed.ne_str_bool (fin_bl I q (by simp))
    | int j => obtain ⟨t', rfl⟩ := ry; exact PySem.EqMixed.ne_str_int (fin_bl I q (by simp))
    | str j => obtain ⟨t', rfl⟩ := ry; exact ne_str (fin_bl I q (congrArg not dec_str))
    | _ => exact absurd (show false = true from hs) Bool.false_ne_true
  | byt i =>
    obtain ⟨t, rfl⟩ := rx
    cases y with
    | byt j => obtain ⟨t', rfl⟩ := ry; exact PySem.W.ne_bytes (fin_bl I q (congrArg not dec_byt))
    | _ => exact absurd (show false = true from hs) Bool.false_ne_true
  | _ => cases y <;> exact absurd (show false = true from hs) Bool.false_ne_true
theorem op_le : OpR X (compareOp .LtE) (rI0 fun i j => .bl (decide (i ≤ j))) := opB0 fun _ _ _ _ _ _ _ q => le_int q
theorem op_gt : OpR X (compareOp .Gt) (rI0 fun i j => .bl (decide (j < i))) := opB0 fun _ _ _ _ _ _ _ q => gt_int q
noncomputable def isObj : HO → Bool
  | .lst _ => true
  | .ins _ _ _ => true
  | _ => false
theorem nomark (b : Expr) {op : CmpOp} (h : op ≠ .In := by decide) (h2 : op ≠ .NotIn := by decide) : behindInMarks op b = false := by
  have e1 : (op == CmpOp.In) = false := by cases op <;> first | rfl | exact absurd rfl h
  have e2 : (op == CmpOp.NotIn) = false := by cases op <;> first | rfl | exact absurd rfl h2
  cases b <;> simp [behindInMarks, e1, e2]
theorem pe_cmpR {op : CmpOp} {r : R2} (ho : OpR X (compareOp op) r) (ha : PE X a ta) (hb : PE X b tb) (hm : behindInMarks op b = false) : PE X (.Compare a [op] [b] pos) (tOp r ta tb) := by
  intro pins s σ H Q I h
  exact wpAny_Compare1 (binT ha hb I h fun v u s2 x y H2 I2 rx ry q => ho pins s2 σ H2 x y v u Q I2 rx ry q) hm
noncomputable def tTest (t : TE) : TT := fun σ H Q => t σ H fun x H' => ∃ k, x = .bl k ∧ Q k H'
theorem pt_cmpR {op : CmpOp} {r : R2} (ho : OpR X (compareOp op) r) (ha : PE X a ta) (hb : PE X b tb) (hm : behindInMarks op b = false) : PT X (.Compare a [op] [b] pos) (tTest (tOp r ta tb)) := by
  intro pins s σ H Q I h
  refine wpAny_isTrue_Compare1 (thn (ha pins s σ H _ I h) fun v s1 ⟨x, H1, I1, r1, q1⟩ => thn (hb pins s1 σ H1 _ I1 q1) fun u s2 ⟨y, H2, I2, r2, q2⟩ =>
    thn (ho pins s2 σ H2 x y v u _ I2 r1 r2 q2) fun c s3 ⟨z, H3, I3, r3, k, e, q3⟩ => ?_) hm
  subst e
  cases r3
  exact wpAny_truthy_bool ⟨H3, I3, q3⟩
noncomputable def tChain (r r' : R2) (ta tb tc : TE) : TE := fun σ H Q => ta σ H fun x H1 => tb σ H1 fun y H2 => r x y H2 fun z H3 => ∃ k, z = .bl k ∧
  (if k = true then tc σ H3 fun w' H4 => r' y w' H4 Q else Q (.bl false) H3)
noncomputable def TruV (K : PySem.W.Frag) (x : V) (H : Hp) (k : Bool) : Prop :=
  match x with
  | .non => k = false
  | .bl b => k = b
  | .int i => k = (i != 0)
  | .str y => y.length ≤ sizeLine ∧ k = ((y.length : Int) != 0)
  | .byt y => y.size ≤ sizeLine ∧ k = ((y.size : Int) != 0)
  | .ref p => (∃ xs, SqL K H p xs ∧ k = !xs.isEmpty) ∨ (∃ xs, SqT K H p xs ∧ k = !xs.isEmpty) ∨ ∃ kvs, H p = some (.dK kvs) ∧ k = !kvs.isEmpty
  | _ => False
theorem isEmpty_kv {κ : Type} {kvs : List (κ × V)} {vs : List (κ × Value)} (r : KV kvs vs) : (!vs.isEmpty) = !kvs.isEmpty := by
  cases r <;> rfl
theorem isEmpty_of {xs : List V} {its : List Value} (r : Vals xs its) : (!its.toArray.isEmpty) = !xs.isEmpty := by
  cases r <;> simp
theorem line63 : (sizeLine : Nat) < 2 ^ 63 := by rw [sizeLine_eq]; decide
theorem tru_ok : TruR X (fun x H Q => ∃ k, TruV X.K x H k ∧ Q k H) := by
  intro pins s σ H x v Q I rx h
  obtain ⟨k, e, q⟩ := h
  have hl := line63
  have hs : sizeLine = 16777216 := sizeLine_eq
  cases x with
  | non =>
    cases rx
    have e' : k = false := e
    subst e'
    exact truthy_none ⟨H, I, q⟩
  | bl b =>
    cases rx
    have e' : k = b := e
    subst e'
    exact wpAny_truthy_bool ⟨H, I, q⟩
  | int i =>
    obtain ⟨t, rfl⟩ := rx
    have e' : k = (i != 0) := e
    subst e'
    exact PySem.P.truthy_int ⟨H, I, q⟩
  | str y =>
    obtain ⟨t, rfl⟩ := rx
    obtain ⟨hy, e'⟩ : y.length ≤ sizeLine ∧ k = ((y.length : Int) != 0) := e
    subst e'
    exact PySem.P.truthy_str (by omega) ⟨H, I.tok _, q⟩
  | byt y =>
    obtain ⟨t, rfl⟩ := rx
    obtain ⟨hy, e'⟩ : y.size ≤ sizeLine ∧ k = ((y.size : Int) != 0) := e
    subst e'
    exact PySem.W.truthy_bytes (by omega) ⟨H, I.tok _, q⟩
  | ref p =>
    cases rx
    have e' : (∃ xs, SqL X.K H p xs ∧ k = !xs.isEmpty) ∨ (∃ xs, SqT X.K H p xs ∧ k = !xs.isEmpty) ∨ ∃ kvs, H p = some (.dK kvs) ∧ k = !kvs.isEmpty := e
    rcases e' with ⟨xs, hx, e'⟩ | ⟨xs, hx, e'⟩ | ⟨kvs, hx, e'⟩
    · subst e'
      obtain ⟨its, r, pl, hz⟩ := I.list hx
      have hlen := r.length
      exact wpAny_truthy_list pl.isList (by simp only [List.size_toArray]; omega) ⟨H, I.tok _, by rw [isEmpty_of r]; exact q⟩
    · subst e'
      obtain ⟨its, r, pl, hz⟩ := I.tuple hx
      have hlen := r.length
      exact truthy_tuple pl (by simp only [List.size_toArray]; omega) ⟨H, I.tok _, by rw [isEmpty_of r]; exact q⟩
    · subst e'
      obtain ⟨hz, hS, vs, r, m⟩ : kvs.length ≤ sizeLine ∧ (p == sysModules) = false ∧ ∃ vs, KV kvs vs ∧ s.heap.DictOf (mixKind X.prog X.w) p vs := I.hok p _ hx
      have hlen : kvs.length = vs.length := Paired.length r
      exact wpAny_truthy_dict hS m (by omega) ⟨H, I.tok _, by rw [isEmpty_kv r]; exact q⟩
  | _ => exact (show False from e).elim
theorem pt_truth (ha : PE X a ta) (he : ∀ whole, isTrue a X.env whole = (do let v ← whole; standAt a.pos; holding [v] (truthy v))) :
    PT X a (fun σ H Q => ta σ H fun x H' => ∃ k, TruV X.K x H' k ∧ Q k H') := by
  intro pins s σ H Q I h
  exact isTrue_plain (thn (ha pins s σ H _ I h) fun v s1 ⟨x, H1, I1, r1, q1⟩ => tru_ok pins s1 σ H1 x v Q I1 r1 q1) (he _)
theorem op_add_str : OpR X (binaryOp .Add) (fun x y H Q => ∃ i j, x = .str i ∧ y = .str j ∧ i.length + j.length ≤ sizeLine ∧ Q (.str (i ++ j)) H) := by
  intro pins s σ H x y v u Q I rx ry h
  obtain ⟨i, j, rfl, rfl, hz, q⟩ := h
  obtain ⟨t, rfl⟩ := rx
  obtain ⟨t', rfl⟩ := ry
  exact add_str (fun t' tk => ⟨.str (i ++ j), H, I.tok _, ⟨_, rfl⟩, q⟩) hz
noncomputable def PlainIxT (b : Expr) : Prop := ∀ o i, subscripted b false o i = operate [o, i] (getItem o i)
theorem vals1 {x : V} {us : List Value} (r : Vals [x] us) : ∃ u, us = [u] ∧ RelV x u := by
  cases r with
  | cons r1 r2 => cases r2; exact ⟨_, rfl, r1⟩
theorem vals2 {x y : V} {us : List Value} (r : Vals [x, y] us) : ∃ u w', us = [u, w'] ∧ RelV x u ∧ RelV y w' := by
  cases r with
  | cons r1 r2 =>
    cases r2 with
    | cons r3 r4 => cases r4; exact ⟨_, _, rfl, r1, r3⟩
theorem call_int1 : CallR X (.type "int") (fun xs H Q => (∃ i, xs = [.int i] ∧ Q (.int i) H) ∨ ∃ k, xs = [.bl k] ∧ Q (.int (if k then 1 else 0)) H) := by
  intro pins s σ H xs us Q I r h
  rcases h with ⟨i, rfl, q⟩ | ⟨k, rfl, q⟩
  · obtain ⟨u, rfl, t, rfl⟩ := vals1 r
    exact call_int_int ⟨.int i, H, I, ⟨_, rfl⟩, q⟩
  · obtain ⟨u, rfl, r1⟩ := vals1 r
    cases r1
    exact call_int_bool ⟨.int (if k then 1 else 0), H, I.tok _, ⟨_, rfl⟩, q⟩
theorem call_str_int : CallR X (.type "str") (fun xs H Q => ∃ i, xs = [.int i] ∧ i.natAbs.log2 < 1920 ∧ Q (.str (toString i)) H) := by
  intro pins s σ H xs us Q I r h
  obtain ⟨i, rfl, hz, q⟩ := h
  obtain ⟨u, rfl, t, rfl⟩ := vals1 r
  exact PySem.P.str_of_int hz ⟨.str _, H, I.tok _, ⟨_, rfl⟩, q⟩
noncomputable def LenV (K : PySem.W.Frag) (x : V) (H : Hp) (n : Nat) : Prop :=
  match x with
  | .str y => y.length ≤ sizeLine ∧ n = y.length
  | .byt y => y.size ≤ sizeLine ∧ n = y.size
  | .ref p => (∃ xs, SqL K H p xs ∧ n = xs.length) ∨ ∃ xs, SqT K H p xs ∧ n = xs.length
  | _ => False
end
end L2
namespace L2
open PySem PySem.Spec PyProof.Rows
structure ObjM (h : Heap) (x dx C : Addr) (mA : Str → Option Value) : Prop where
  obj : h.get? x = some (PySem.W.instObj C dx)
  ns : h.Ns1 dx mA
  ne : dx ≠ x
theorem lookIn_ns {h : Heap} {dx : Addr} {mA : Str → Option Value} (n : h.Ns1 dx mA) : ∃ od, h.get? dx = some od ∧ ∀ name, PySem.W.lookIn name od = some (mA name) := by
  obtain ⟨o, es, ep, ho, hd, hk, _, hm⟩ := n
  refine ⟨o, ho, fun name => ?_⟩
  have e := hm name
  unfold nsFind findBy at e
  rw [← Array.find?_toList] at e
  unfold PySem.W.lookIn
  rw [hd]
  dsimp only
  split
  · rename_i y q
    rw [q] at e
    exact congrArg some e
  · rename_i q
    rw [q] at e
    have a : es.toList.any (·.refKey) = false := by
      rw [List.any_eq_false]
      intro y hy
      obtain ⟨z, t, hkey⟩ := hk y (Array.mem_toList_iff.mp hy)
      simp [DictEntry.refKey, hkey]
    have a' : ¬ es.toList.any (·.refKey) = true := by rw [a]; exact Bool.false_ne_true
    rw [if_neg a']
    exact congrArg some e
theorem ObjM.look {h : Heap} {x dx C : Addr} {mA : Str → Option Value} (I : ObjM h x dx C mA) : ∃ od, PySem.W.InstAt h x (PySem.W.instObj C dx) C (some od) ∧ ∀ name, PySem.W.lookIn name od = some (mA name) :=
  let ⟨od, ho, hl⟩ := lookIn_ns I.ns
  ⟨od, ⟨I.obj, rfl, rfl, ho⟩, hl⟩
section
variable {prog : Program} {w : World} {A : Around} {E : Value → Shared → Prop} {s : Shared} {K : PySem.W.Frag} {x dx C f : Addr} {mA : Str → Option Value} {name : Str} {v : Value}
end
noncomputable def putF (f : Str) (v : V) : List (Str × V) → List (Str × V)
  | [] => [(f, v)]
  | (g, x) :: r => if g = f then (g, v) :: r else (g, x) :: putF f v r
theorem RelO.some_of {v : V} {o : Option Value} (r : RelO (some v) o) : ∃ u, o = some u ∧ RelV v u := by
  cases o with
  | none => exact (show False from r).elim
  | some u => exact ⟨u, rfl, r⟩
section
variable {P : Program} {w : World} {H H' : Hp} {h h' : Heap} {a C dx : Addr} {fs fs' : List (Str × V)}
theorem ins_get (hok : HOk P w H h) (e : H a = some (.ins C dx fs)) : ∃ mA, ObjM h a dx C mA ∧ (∀ f, RelO (fs.lookup f) (mA f)) ∧ PySem.Within mA (fs.map (·.1)) ∧ fs.length ≤ 1000 ∧ H dx = some (.own a) := by
  obtain ⟨d, z, ne, ob, mA, n, r, q⟩ := (show ObjOk P w H h a (.ins C dx fs) from hok a _ e)
  exact ⟨mA, ⟨ob, n, ne⟩, r, q, z, d⟩
end
structure Cls (K : PySem.W.Frag) (C : Addr) : Prop where
  pg : PySem.W.plainGet K C Str.empty = true
  hd : PySem.W.hasDictIn K C = true
  po : PySem.W.plainOver K C = true
  sa : PySem.W.findIn K (.ref C) "__setattr__" = some (some (.builtin "object.__setattr__"))
theorem Cls.get {K : PySem.W.Frag} {C : Addr} (c : Cls K C) (f : Str) : PySem.W.plainGet K C f = true := c.pg
noncomputable def NoAttr (K : PySem.W.Frag) (C : Addr) (f : Str) : Prop := PySem.W.findIn K (.ref C) f = some none
structure Con (K : PySem.W.Frag) (C : Addr) (f : Str) (v : V) (u : Value) : Prop where
  at_ : PySem.W.findIn K (.ref C) f = some (some u)
  rel : RelV v u
  get : PySem.W.specialIn K u "__get__" = some none
  cp : PySem.W.copiedNames.contains f = false
structure Meth (K : PySem.W.Frag) (C : Addr) (m : Str) (f : Addr) : Prop where
  at_ : PySem.W.findIn K (.ref C) m = some (some (.ref f))
  fn : PySem.W.isFn K (.ref f) = true
  kp : PySem.W.keepIn K (.ref f) = true
section
variable {X : Cx} {pins : List (Addr × Obj)} {σ : St} {H : Hp} {s : Shared} {a C dx : Addr} {fs : List (Str × V)} {f : Str} {v : V} {A : Around} {E : Value → Shared → Prop}
end
noncomputable def tFld (K : PySem.W.Frag) (ta : TE) (f : Str) : TE := fun σ H Q => ta σ H fun x H1 => ∃ a C dx fs v, x = .ref a ∧ H1 a = some (.ins C dx fs) ∧ Cls K C ∧ NoAttr K C f ∧ fs.lookup f = some v ∧ Q v H1
noncomputable def tCon (K : PySem.W.Frag) (ta : TE) (f : Str) : TE := fun σ H Q => ta σ H fun x H1 => ∃ a C dx fs v u, x = .ref a ∧ H1 a = some (.ins C dx fs) ∧ Cls K C ∧ Con K C f v u ∧ fs.lookup f = none ∧ Q v H1
noncomputable def sFld (K : PySem.W.Frag) (ta tv : TE) (f : Str) : TS := fun D σ H => tv σ H fun y H1 => ta σ H1 fun x H2 => ∃ a C dx fs, x = .ref a ∧ H2 a = some (.ins C dx fs) ∧ Cls K C ∧ NoAttr K C f ∧ fs.length < 1000 ∧
  D.nx σ (upd H2 a (.ins C dx (putF f y fs)))
noncomputable def InOp (X : Cx) (op : Operator) (rd : V → V → Hp → VK → Prop) : Prop :=
  ∀ (pins : List (Addr × Obj)) (s : Shared) (σ : St) (H : Hp) (x y : V) (u v : Value) (Q : VK), Inv X pins σ H s → RelV x u → RelV y v → rd x y H Q → wpAny (model X.prog X.w) X.A (inplaceOp op u v) (EP X pins σ Q) X.xe s
noncomputable def sFldAug (K : PySem.W.Frag) (ta tv : TE) (rd : V → V → Hp → VK → Prop) (f : Str) : TS := fun D σ H => ta σ H fun x H1 => ∃ a C dx fs v, x = .ref a ∧ H1 a = some (.ins C dx fs) ∧ Cls K C ∧ NoAttr K C f ∧ fs.lookup f = some v ∧
  tv σ H1 fun y H2 => rd v y H2 fun z H3 => ∃ dx' fs', H3 a = some (.ins C dx' fs') ∧ fs'.length < 1000 ∧ D.nx σ (upd H3 a (.ins C dx' (putF f z fs')))
section
variable {X : Cx} {o e value : Expr} {f : Str} {pos pos' tpos : Pos} {ta tv : TE}
noncomputable def rAdd : V → V → Hp → VK → Prop := fun x y H Q => ∃ i j, x = .int i ∧ y = .int j ∧ Q (.int (i + j)) H
noncomputable def rSub : V → V → Hp → VK → Prop := fun x y H Q => ∃ i j, x = .int i ∧ y = .int j ∧ Q (.int (i - j)) H
end
section
variable {X : Cx} {pins : List (Addr × Obj)} {σ : St} {H : Hp} {s : Shared} {A : Around} {E : Value → Shared → Prop} {Q : Value → Shared → Prop} {c : Value} {b : Bool}
inductive TyOf (K : PySem.W.Frag) (H : Hp) : V → Value → Prop where
  | non : TyOf K H .non (.type "NoneType")
  | bl (x : Bool) : TyOf K H (.bl x) (.type "bool")
  | int (i : Int) : TyOf K H (.int i) (.type "int")
  | str (x : Str) : TyOf K H (.str x) (.type "str")
  | flt (x : UInt64) : TyOf K H (.flt x) (.type "float")
  | lst {a : Addr} {xs : List V} (e : H a = some (.lst xs)) : TyOf K H (.ref a) (.type "list")
  | frz {a : Addr} {o : Obj} {xs : List V} (e : H a = some (.frz o (.lst xs))) : TyOf K H (.ref a) (.type "list")
  | tup {a : Addr} {xs : List V} (e : H a = some (.tup xs)) : TyOf K H (.ref a) (.type "tuple")
  | dK {a : Addr} {kvs : List (Key × V)} (e : H a = some (.dK kvs)) : TyOf K H (.ref a) (.type "dict")
  | dT {a : Addr} {kvs : List (List Key × V)} (e : H a = some (.dT kvs)) : TyOf K H (.ref a) (.type "dict")
  | ins {a C dx : Addr} {fs : List (Str × V)} (e : H a = some (.ins C dx fs)) (cl : Cls K C) (ha : PySem.W.findIn K (.ref C) "__class__" = some (some (.builtin "object.__class__")))
      (hn : PySem.W.specialIn K (.builtin "object.__class__") "__get__" = some (some (.builtin "getset_descriptor.__get__"))) (htk : PySem.W.takesIn K (.builtin "object.__class__") = some true)
      (hm : PySem.W.mroIn K C (.type "object") = some true) : TyOf K H (.ref a) (.ref C)
theorem isinst_ok {x : V} {u t : Value} (I : Inv X pins σ H s) (rx : RelV x u) (ty : TyOf X.K H x t) (e : PySem.W.kitOne X.K t c = some b) (h : ∀ tk, Q (.bool b) { s with toks := tk }) :
    wpAny (model X.prog X.w) A (call (.builtin "isinstance") [u, c]) Q E s := by
  cases ty with
  | non => cases (show u = Value.none from rx); exact PySem.W.kia_one PySem.W.kitx_none I.kIn True.intro e (fun z => nomatch z) h
  | bl y => cases (show u = Value.bool y from rx); exact PySem.W.kia_one PySem.W.kitx_bool I.kIn True.intro e (fun z => nomatch z) h
  | int i => obtain ⟨t, q⟩ := (show ∃ t, u = Value.int i t from rx); cases q; exact PySem.W.kia_one PySem.W.kitx_int I.kIn True.intro e (fun z => nomatch z) h
  | str y => obtain ⟨t, q⟩ := (show ∃ t, u = Value.str y t from rx); cases q; exact PySem.W.kia_one PySem.W.kitx_str I.kIn True.intro e (fun z => nomatch z) h
  | flt y => obtain ⟨t, q⟩ := (show ∃ t, u = Value.float y t from rx); cases q; exact PySem.W.kia_one PySem.W.kitx_float I.kIn True.intro e (fun z => nomatch z) h
  | @lst a xs ea =>
    cases (show u = Value.ref a from rx)
    obtain ⟨_, _, n, _, h1⟩ := (show ObjOk X.prog X.w H s.heap a (.lst xs) from I.hok a _ ea)
    exact PySem.W.kia_one PySem.W.kitx_list I.kIn ⟨_, h1, rfl⟩ e (fun z => nomatch z) h
  | @frz a ob xs ea =>
    cases (show u = Value.ref a from rx)
    obtain ⟨_, _, _, n, _, h1⟩ := (show ObjOk X.prog X.w H s.heap a (.frz ob (.lst xs)) from I.hok a _ ea)
    exact PySem.W.kia_one PySem.W.kitx_list I.kIn ⟨_, h1, rfl⟩ e (fun z => nomatch z) h
  | @tup a xs ea =>
    cases (show u = Value.ref a from rx)
    obtain ⟨_, _, _, p⟩ := (show ObjOk X.prog X.w H s.heap a (.tup xs) from I.hok a _ ea)
    obtain ⟨o, h1, h2, _⟩ := p
    exact PySem.W.kia_one PySem.W.kitx_tuple I.kIn ⟨o, h1, h2⟩ e (fun z => nomatch z) h
  | @dK a kvs ea =>
    cases (show u = Value.ref a from rx)
    obtain ⟨_, _, vs, _, p⟩ := (show ObjOk X.prog X.w H s.heap a (.dK kvs) from I.hok a _ ea)
    obtain ⟨o, es, ep, h1, h2, _⟩ := p
    exact PySem.W.kia_one PySem.W.kitx_dict I.kIn ⟨o, h1, h2.1⟩ e (fun z => nomatch z) h
  | @dT a kvs ea =>
    cases (show u = Value.ref a from rx)
    obtain ⟨_, _, xs, _, o, es, ep, h1, h2, _⟩ := (show ObjOk X.prog X.w H s.heap a (.dT kvs) from I.hok a _ ea)
    exact PySem.W.kia_one PySem.W.kitx_dict I.kIn ⟨o, h1, h2.1⟩ e (fun z => nomatch z) h
  | @ins a C dx fs ea cl ha hn htk hm =>
    cases (show u = Value.ref a from rx)
    obtain ⟨mA, O, _⟩ := ins_get I.hok ea
    obtain ⟨od, J, _⟩ := O.look
    exact PySem.W.kia_one (PySem.W.kitx_own (cl.get _) cl.hd ha hn htk hm) I.kIn J e (fun z => nomatch z) h
end
end L2
namespace L2
open PySem PySem.Spec PyProof.Rows
structure Room (k : Nat) (A : Around) : Prop where
  hd : A.handled = none
  dp : A.depth + 3 * k + 5 < recursionLimit
  un : A.units + 16 * k + 200 < cLine
theorem Room.mono {j k : Nat} {A : Around} (r : Room k A) (h : j ≤ k) : Room j A := ⟨r.hd, by have := r.dp; omega, by have := r.un; omega⟩
theorem Room.deeper {k : Nat} {A : Around} (r : Room (k + 1) A) (env : Env) : Room k (A.deeper env) :=
  ⟨r.hd, by have := r.dp; show A.depth + 1 + 3 * k + 5 < _; omega, by have := r.un; show A.units + 3 + 16 * k + 200 < _; omega⟩
theorem Room.in1 {k : Nat} {A : Around} (r : Room (k + 1) A) : Room k A.in1 :=
  ⟨r.hd, by have := r.dp; show A.depth + 3 * k + 5 < _; omega, by have := r.un; show A.units + 1 + 16 * k + 200 < _; omega⟩
theorem Room.depth {k : Nat} {A : Around} (r : Room k A) : A.depth < recursionLimit := by have := r.dp; omega
theorem Room.units {k : Nat} {A : Around} (r : Room k A) : A.units + 64 < cLine := by have := r.un; omega
theorem Room.units0 {k : Nat} {A : Around} (r : Room k A) : A.units < cLine := by have := r.un; omega
noncomputable def tNil : TA := fun _ H Q => Q [] H
noncomputable def tCons (ta : TE) (tr : TA) : TA := fun σ H Q => ta σ H fun x H1 => tr σ H1 fun xs H2 => Q (x :: xs) H2
section
variable {X : Cx} {e : Expr} {es : List Expr} {te : TE} {t : TA} {pos : Pos}
theorem pa_nil : PA X [] tNil := fun _ _ _ _ H Q I h => Calls.spliced_nil ⟨[], H, I, .nil, h⟩
theorem pa_cons (ha : PE X e te) (hr : PA X es t) (hs : starEach (e :: es) X.env = (false, eval e X.env) :: starEach es X.env := by rfl) : PA X (e :: es) (tCons te t) := by
  intro pos pins s σ H Q I h
  rw [hs]
  show wpAny _ _ (spliced ((false, eval e X.env) :: backTo pos (starEach es X.env))) _ _ s
  refine Calls.spliced_cons (thn (ha pins s σ H _ I h) fun u s1 ⟨x, H1, I1, r1, q1⟩ => ?_)
  exact thn (hr pos pins s1 σ H1 _ I1 q1) fun us s2 ⟨xs, H2, I2, r2, q2⟩ => ⟨x :: xs, H2, I2, .cons r1 r2, q2⟩
noncomputable def tTup (t : TA) : TE := fun σ H Q => t σ H fun xs H1 => xs.length ≤ sizeLine ∧ ∀ p, H1 p = none → Q (.ref p) (upd H1 p (.tup xs))
noncomputable def tLst (t : TA) : TE := fun σ H Q => t σ H fun xs H1 => xs.length ≤ sizeLine ∧ ∀ p, H1 p = none → Q (.ref p) (upd H1 p (.lst xs))
theorem pe_tup {x1} (h : PA X es t) : PE X (.Tuple es x1 pos) (tTup t) := by
  intro pins s σ H Q I hq
  refine wpAny_Tuple_spliced (thn (h pos pins s σ H _ I hq) fun us s1 ⟨xs, H1, I1, r, z, q⟩ => ⟨by rw [← r.length]; exact z, ?_⟩)
  have hf : H1 s1.heap.objs.size = none := I1.hok.fresh (Nat.le_refl _)
  refine ⟨.ref s1.heap.objs.size, upd H1 s1.heap.objs.size (.tup xs), I1.laid (t' := s1.toks) (fun b u e => Heap.get?_push_of_some _ e) (Nat.le_refl _) ?_, rfl, q _ hf⟩
  exact ⟨z, us, r, ⟨_, Heap.get?_push_size _ rfl, rfl, _, rfl⟩⟩
theorem pe_lst (h : PA X es t) : PE X (.List es pos) (tLst t) := by
  intro pins s σ H Q I hq
  refine wpAny_List_spliced (thn (h pos pins s σ H _ I hq) fun us s1 ⟨xs, H1, I1, r, z, q⟩ => ⟨by rw [← r.length]; exact z, ?_⟩)
  have hf : H1 s1.heap.objs.size = none := I1.hok.fresh (Nat.le_refl _)
  refine ⟨.ref s1.heap.objs.size, upd H1 s1.heap.objs.size (.lst xs), I1.laid (t' := s1.toks) (fun b u e => Heap.get?_push_of_some _ e) (Nat.le_refl _) ?_, rfl, q _ hf⟩
  exact ⟨z, us, 0, r, Heap.get?_push_size _ rfl⟩
end
noncomputable abbrev Sp := List V → Hp → VK → XK → Prop
noncomputable abbrev CXT := List Env → Hp → Shared → XK → Value → Shared → Prop
structure Env0 (P : Program) (w : World) (K : PySem.W.Frag) (mg : Str → Option Value) (base : Heap) (A : Around) (outer : List Env) (s : Shared) (H : Hp) : Prop where
  frames : A.frames = some outer
  mod : Mod K mg base
  bs : ∀ b o, base.get? b = some o → s.heap.get? b = some o ∧ H b = none
  bsz : base.objs.size ≤ s.heap.objs.size
  funs : s.heap.FunFrames base outer
  frf : ∀ b ∈ frs outer, H b = none
  hok : HOk P w H s.heap
  bare : AllBare s.gens
noncomputable def CE (outer : List Env) (P : Program) (w : World) (H : Hp) (s : Shared) (Q : VK) (u : Value) (s' : Shared) : Prop :=
  ∃ v H', s'.os = s.os ∧ AllBare s'.gens ∧ Un (frs outer) [] H H' s.heap s'.heap ∧ HOk P w H' s'.heap ∧ RelV v u ∧ Q v H'
noncomputable def CR (CX : CXT) (outer : List Env) (P : Program) (w : World) (H : Hp) (s : Shared) (Q : VK) (E : XK) (r : Result) (s' : Shared) : Prop :=
  match r with
  | .ok (.ret u) => CE outer P w H s Q u s'
  | .ok _ => False
  | .error e => CX outer H s E e s'
structure FnOk (P : Program) (w : World) (K : PySem.W.Frag) (mg : Str → Option Value) (base : Heap) (CX : CXT) (k : Nat) (f : Addr) (fd : FuncData) (ps : List Str) (sp : Sp) : Prop where
  len : ∀ vs H Q E, sp vs H Q E → vs.length = ps.length
  run : ∀ (A : Around) (outer : List Env) (s : Shared) (H : Hp) (args : Args) (us : List Value) (vs : List V) (Q : VK) (E : XK), Room k A → Env0 P w K mg base A outer s H → BindsTo s fd args (ps.zip us) → Vals vs us → sp vs H Q E →
    codeAny (model P w) A (.call (.ref f) args) (CR CX outer P w H s Q E) s
theorem FnOk.mono {P : Program} {w : World} {K : PySem.W.Frag} {mg : Str → Option Value} {base : Heap} {CX : CXT} {j k : Nat} {f : Addr} {fd : FuncData} {ps : List Str} {sp : Sp} (F : FnOk P w K mg base CX j f fd ps sp) (h : j ≤ k) :
    FnOk P w K mg base CX k f fd ps sp := ⟨F.len, fun A outer s H args us vs Q E hr => F.run A outer s H args us vs Q E (hr.mono h)⟩
section
variable {X : Cx} {pins : List (Addr × Obj)} {σ : St} {H : Hp} {s s' : Shared}
theorem Inv.env0 (I : Inv X pins σ H s) : Env0 X.prog X.w X.K X.mg X.base X.A X.stack s H :=
  ⟨I.ok.frames, I.ok.mod, I.bs, Nat.le_trans I.ok.bsz I.sz, I.stack, I.stkFree, I.hok, I.bare⟩
theorem Inv.after {Q : VK} {u : Value} (I : Inv X pins σ H s) (h : CE X.stack X.prog X.w H s Q u s') : EP X pins σ Q u s' := by
  obtain ⟨v, H', os, bare, un, hok, r, q⟩ := h
  obtain ⟨hh, g, d, t, os'⟩ := s'
  obtain rfl : os' = s.os := os
  exact ⟨v, H', I.call (h' := hh) (g' := g) (d' := d) (t' := t) (ch := []) un hok bare (fun b z => absurd z (by simp)), r, q⟩
end
noncomputable def tCall (sp : Sp) (dvs : List V) (E : XK) (t : TA) : TE := fun σ H Q => t σ H fun vs H1 => sp (vs ++ dvs) H1 Q E
noncomputable def tMeth (C : Addr) (m : Str) (sp : Sp) (dvs : List V) (E : XK) (ta : TE) (t : TA) : TE := fun σ H Q => ta σ H fun x H1 => ∃ a dx fs, x = .ref a ∧ H1 a = some (.ins C dx fs) ∧ fs.lookup m = none ∧
  t σ H1 fun vs H2 => sp (x :: (vs ++ dvs)) H2 Q E
noncomputable def tMake (C : Addr) (sp : Sp) (dvs : List V) (E : XK) (t : TA) : TE := fun σ H Q => t σ H fun vs H1 => ∀ x dx, H1 x = none → H1 dx = none → dx ≠ x →
  sp (.ref x :: (vs ++ dvs)) (upd (upd H1 dx (.own x)) x (.ins C dx [])) (fun v H2 => v = .non ∧ Q (.ref x) H2) E
noncomputable def Binds (K : PySem.W.Frag) (fd : FuncData) (ps : List Str) (ds : List Value) : Prop :=
  ∀ (s : Shared) (us : List Value), K.In s.heap → (us ++ ds).length = ps.length → BindsTo s fd ⟨us, []⟩ (ps.zip (us ++ ds))
theorem Binds.all {K : PySem.W.Frag} {fd : FuncData} {ps : List Str} (h : ∀ us : List Value, us.length = ps.length → bindArgs fd ⟨us, []⟩ = pure (ps.zip us)) : Binds K fd ps [] := fun s us _ hl => by
  rw [List.append_nil] at hl ⊢
  exact .of_eq (h us hl)
noncomputable def Passes (CX : CXT) (X : Cx) (E : XK) : Prop := ∀ (pins : List (Addr × Obj)) (σ : St) (H : Hp) (s : Shared) (e : Value) (s' : Shared), Inv X pins σ H s → CX X.stack H s E e s' → X.xe e s'
section
variable {X : Cx} {CX : CXT} {k : Nat} {f C : Addr} {fd : FuncData} {ps : List Str} {sp : Sp} {dvs : List V} {ds : List Value} {E : XK} {x m : Str} {p pos apos : Pos} {e o : Expr} {es : List Expr} {ta : TE} {t : TA}
theorem run_fn {pins : List (Addr × Obj)} {σ : St} {H : Hp} {s : Shared} {Q : VK} {us : List Value} {vs : List V} (F : FnOk X.prog X.w X.K X.mg X.base CX k f fd ps sp) (hr : Room k X.A) (hb : Binds X.K fd ps ds) (hd : Vals dvs ds) (hx : Passes CX X E)
    (I : Inv X pins σ H s) (r : Vals vs us) (h : sp (vs ++ dvs) H Q E) : wpAny (model X.prog X.w) X.A (call (.ref f) us) (EP X pins σ Q) X.xe s := by
  have r2 : Vals (vs ++ dvs) (us ++ ds) := r.append hd
  have hl : (us ++ ds).length = ps.length := by rw [← r2.length]; exact F.len _ _ _ _ h
  refine wpAny_call (codeAny_mono (F.run X.A X.stack s H ⟨us, []⟩ (us ++ ds) (vs ++ dvs) Q E hr I.env0 (hb s us I.kIn hl) r2 h) fun r s' hq => ?_)
  cases r with
  | error e => exact hx pins σ H s e s' I hq
  | ok fl =>
    cases fl with
    | ret u => exact I.after hq
    | next => exact False.elim hq
    | brk => exact False.elim hq
    | cont => exact False.elim hq
theorem pe_call (F : FnOk X.prog X.w X.K X.mg X.base CX k f fd ps sp) (hr : Room k X.A) (hg : Gl X x) (hm : X.mg x = some (.ref f)) (hk : PySem.W.keepIn X.K (.ref f) = true) (hb : Binds X.K fd ps ds) (hd : Vals dvs ds) (hx : Passes CX X E)
    (ha : PA X (e :: es) t) (hdb : (x == ("__debug__" : Str)) = false := by decide) (he : starEach (e :: es) X.env = (false, eval e X.env) :: starEach es X.env := by rfl) (hpl : (backTo pos (starEach es X.env)).any (·.1) = false := by rfl) :
    PE X (.Call (.Name x p) (e :: es) [] pos) (tCall sp dvs E t) := by
  intro pins s σ H Q I h
  refine wpAny_Call_Name_kw (ld_glob I hg hm ?_ hdb)
  refine PySem.W.callWith_K (h₀ := X.base) I.ok.mod.kin hk (thn (ha pos pins s σ H _ I h) fun us s1 ⟨vs, H1, I1, r, q⟩ => ⟨I1.kIn, ?_⟩) he hpl
  exact run_fn F hr hb hd hx I1 r q
theorem pe_call0 (F : FnOk X.prog X.w X.K X.mg X.base CX k f fd ps sp) (hr : Room k X.A) (hg : Gl X x) (hm : X.mg x = some (.ref f)) (hk : PySem.W.keepIn X.K (.ref f) = true) (hb : Binds X.K fd ps ds) (hd : Vals dvs ds) (hx : Passes CX X E)
    (hdb : (x == ("__debug__" : Str)) = false := by decide) : PE X (.Call (.Name x p) [] [] pos) (tCall sp dvs E tNil) := by
  intro pins s σ H Q I h
  refine wpAny_Call_Name_kw (ld_glob I hg hm ?_ hdb)
  exact PySem.W.callWith_K0 I.kIn hk (run_fn (us := []) F hr hb hd hx I .nil h)
structure Mk (K : PySem.W.Frag) (C f : Addr) : Prop where
  makes : PySem.W.makesIn K C = true
  init : PySem.W.findIn K (.ref C) "__init__" = some (some (.ref f))
  fn : PySem.W.isFn K (.ref f) = true
  kp : PySem.W.keepIn K (.ref C) = true
end
noncomputable def PK (X : Cx) (kws : List Keyword) (t : TA) : Prop :=
  ∀ (pos : Pos) (pins : List (Addr × Obj)) (s : Shared) (σ : St) (H : Hp) (Q : List V → Hp → Prop), Inv X pins σ H s → t σ H Q → wpAny (model X.prog X.w) X.A (evalAll ((backToKw pos (keywordEach kws X.env)).map (·.2))) (AP X pins σ Q) X.xe s
section
variable {X : Cx} {CX : CXT} {k : Nat} {f C : Addr} {fd : FuncData} {ps ks : List Str} {sp : Sp} {E : XK} {x m : Str} {p pos apos kpos : Pos} {e o : Expr} {es : List Expr} {kws : List Keyword} {te ta : TE} {t tk : TA} {nm : Option Str}
structure KBinds (K : PySem.W.Frag) (fd : FuncData) (ps ks : List Str) (g : List Value → List Value → List Value) (gV : List V → List V → List V) : Prop where
  to : ∀ (s : Shared) (us ws : List Value), K.In s.heap → (g us ws).length = ps.length → BindsTo s fd ⟨us, ks.zip ws⟩ (ps.zip (g us ws))
  rel : ∀ {vs : List V} {us : List Value} {zs : List V} {ws : List Value}, Vals vs us → Vals zs ws → Vals (gV vs zs) (g us ws)
noncomputable def tCallK (sp : Sp) (gV : List V → List V → List V) (E : XK) (t tk : TA) : TE := fun σ H Q => t σ H fun vs H1 => tk σ H1 fun zs H2 => sp (gV vs zs) H2 Q E
variable {g : List Value → List Value → List Value} {gV : List V → List V → List V}
end
structure FnScope (N P : List Str) (sc : Scope) : Prop where
  kind : sc.kind = .function
  co : sc.isCoroutine = false
  gen : sc.isGenerator = false
  nd : N.Nodup
  pre : N.take P.length = P
  par : ∀ x ∈ P, sc.names.lookup x = some .local ∨ sc.names.lookup x = some .cell
  nofree : ∀ y ∈ sc.names, y.2 ≠ .free
theorem bindL_out {kindOf : Str → Option NameKind} {x : Str} : ∀ {binds : List (Str × Value)} {m : Str → Option Value}, (∀ v, (x, v) ∉ binds) → bindL kindOf binds m x = m x
  | [], _, _ => rfl
  | (n, v) :: r, m, h => by
    unfold bindL
    rw [bindL_out fun w hw => h w (List.mem_cons_of_mem _ hw)]
    split
    · have : x ≠ n := by rintro rfl; exact h v List.mem_cons_self
      simp [this]
    · rfl
theorem bindC_out {kindOf : Str → Option NameKind} {x : Str} : ∀ {binds : List (Str × Value)} {m : Str → Option Value}, (∀ v, (x, v) ∉ binds) → bindC kindOf binds m x = m x
  | [], _, _ => rfl
  | (n, v) :: r, m, h => by
    unfold bindC
    rw [bindC_out fun w hw => h w (List.mem_cons_of_mem _ hw)]
    split
    · rfl
    · have : x ≠ n := by rintro rfl; exact h v List.mem_cons_self
      simp [this]
theorem bindL_get {kindOf : Str → Option NameKind} {x : Str} {v : Value} : ∀ {P : List Str} {vs : List Value} {i : Nat} {m : Str → Option Value}, P.Nodup → P[i]? = some x → vs[i]? = some v → kindOf x = some .local →
    bindL kindOf (P.zip vs) m x = some v
  | [], _, _, _, _, h, _, _ => by simp at h
  | _ :: _, [], _, _, _, _, h, _ => by simp at h
  | p :: P, w :: vs, 0, m, nd, h1, h2, hk => by
    simp at h1 h2; subst h1; subst h2
    show bindL kindOf ((p, w) :: P.zip vs) m p = _
    unfold bindL
    rw [bindL_out fun v hv => (List.nodup_cons.mp nd).1 (List.of_mem_zip hv).1, if_pos hk]
    simp
  | p :: P, w :: vs, i + 1, m, nd, h1, h2, hk => by
    show bindL kindOf ((p, w) :: P.zip vs) m x = _
    unfold bindL
    exact bindL_get (i := i) (List.nodup_cons.mp nd).2 (by simpa using h1) (by simpa using h2) hk
theorem bindC_get {kindOf : Str → Option NameKind} {x : Str} {v : Value} : ∀ {P : List Str} {vs : List Value} {i : Nat} {m : Str → Option Value}, P.Nodup → P[i]? = some x → vs[i]? = some v → kindOf x ≠ some .local →
    bindC kindOf (P.zip vs) m x = some v
  | [], _, _, _, _, h, _, _ => by simp at h
  | _ :: _, [], _, _, _, _, h, _ => by simp at h
  | p :: P, w :: vs, 0, m, nd, h1, h2, hk => by
    simp at h1 h2; subst h1; subst h2
    show bindC kindOf ((p, w) :: P.zip vs) m p = _
    unfold bindC
    rw [bindC_out fun v hv => (List.nodup_cons.mp nd).1 (List.of_mem_zip hv).1, if_neg hk]
    simp
  | p :: P, w :: vs, i + 1, m, nd, h1, h2, hk => by
    show bindC kindOf ((p, w) :: P.zip vs) m x = _
    unfold bindC
    exact bindC_get (i := i) (List.nodup_cons.mp nd).2 (by simpa using h1) (by simpa using h2) hk
noncomputable def start (N : List Str) (vs : List V) : St := vs.map some ++ List.replicate (N.length - vs.length) none
noncomputable def cxOf (CX : CXT) (P : Program) (w : World) (K : PySem.W.Frag) (mg : Str → Option Value) (base : Heap) (N : List Str) (qual : Str) (scope : Scope) (f : Addr) (cd : Value) (A : Around) (outer : List Env) (s : Shared) (H : Hp) (E : XK) : Cx where
  prog := P
  w := w
  K := K
  mg := mg
  base := base
  A := A.deeper (envOfC qual scope s.heap.objs.size f cd)
  N := N
  s₀ := s
  H₀ := H
  env := envOfC qual scope s.heap.objs.size f cd
  outer := outer
  stack := envOfC qual scope s.heap.objs.size f cd :: outer
  ex := []
  calm := true
  fn := fun _ => true
  pn := []
  xe := fun e s' => wpAny (model P w) (A.deeper (envOfC qual scope s.heap.objs.size f cd)) (leaving (envOfC qual scope s.heap.objs.size f cd) e) (fun _ s'' => CX outer H s E e s'') (fun e' s'' => CX outer H s E e' s'') s'
theorem cell_has {sc : Scope} {n : Nat} {x : Str} (h : sc.names.lookup x = some .cell) : ∃ c, (cellsFrom n sc.names []).lookup x = some c := by
  have q := PySem.W.cellsFrom_some sc.names n [] (.inl h)
  exact Option.isSome_iff_exists.mp q
theorem inv_start {CX : CXT} {P : Program} {w : World} {K : PySem.W.Frag} {mg : Str → Option Value} {base : Heap} {N ps : List Str} {qual : Str} {scope : Scope} {f : Addr} {cd : Value} {A : Around} {outer : List Env} {s s1 : Shared} {H : Hp} {E : XK} {us : List Value} {vs : List V}
    (S : FnScope N ps scope) (hd : A.handled = none) (e0 : Env0 P w K mg base A outer s H) (hl : vs.length = ps.length) (r : Vals vs us)
    (x : InCallC s s.heap.objs.size (bindL (envOfC qual scope s.heap.objs.size f cd).kindOf (ps.zip us) fun _ => none) (cellsFrom (s.heap.objs.size + 1) scope.names []) (bindC (envOfC qual scope s.heap.objs.size f cd).kindOf (ps.zip us) fun _ => none) s1) :
    Inv (cxOf CX P w K mg base N qual scope f cd A outer s H E) [] (start N vs) H s1 := by
  have hpl : ps.length ≤ N.length := by have := congrArg List.length S.pre; rw [List.length_take] at this; omega
  obtain ⟨h1, tk, rfl, hk⟩ := x.done
  have noA : ∀ b : Addr, b ∉ (cxOf CX P w K mg base N qual scope f cd A outer s H E).ex := fun b z => absurd (show b ∈ ([] : List Addr) from z) (by simp)
  refine ⟨⟨e0.mod, S.kind, rfl, rfl, Nat.le_refl _, fun y z c h1 h2 => ?_, fun y hy => ?_, fun y c _ h => ?_, fun _ => hd, Around.frames_deeper e0.frames, .inr ⟨rfl, rfl⟩, fun b z => absurd z (noA b), e0.bs, e0.bsz, fun b _ _ => noA b, fun b z => absurd z (noA b), e0.funs, e0.frf⟩,
    rfl, e0.bare, Un.kept hk, ⟨_, x.toInCall.ns, fun i y v h1 h2 h3 => ?_⟩, fun y c h => ⟨_, x.cell y c h⟩, e0.hok.fresh (Nat.le_refl _), fun y c h => ?_, fun p hp => absurd (show p ∈ ([] : List (Addr × Obj)) from hp) (by simp), e0.hok.kept hk, ?_⟩
  · exact name_of_addr x.apart (PySem.mem_of_lookup h1) (PySem.mem_of_lookup h2)
  · have hy : scope.names.lookup y = some .cell ∨ scope.names.lookup y = some .free := hy
    rcases hy with hy | hy
    · exact cell_has hy
    · exact absurd rfl (S.nofree _ (PySem.mem_of_lookup hy))
  · exact Nat.le_of_lt (x.above y c (PySem.mem_of_lookup h))
  · have hi : i < vs.length := by
      unfold start at h2
      by_cases hi : i < vs.length
      · exact hi
      · rw [List.getElem?_append_right (by simpa using hi)] at h2
        rw [List.getElem?_replicate] at h2
        split at h2 <;> cases h2
    have ha : vs[i]? = some v := by
      unfold start at h2
      rw [List.getElem?_append_left (by simpa using hi), List.getElem?_map] at h2
      cases e : vs[i]? with
      | none => rw [e] at h2; cases h2
      | some a => rw [e] at h2; cases h2; rfl
    obtain ⟨u, hu, rv⟩ := r.get ha
    have hp : ps[i]? = some y := by
      rw [← S.pre, List.getElem?_take_of_lt (by omega)]; exact h1
    have ndP : ps.Nodup := by rw [← S.pre]; exact S.nd.sublist (List.take_sublist _ _)
    refine ⟨u, rv, ?_⟩
    rcases S.par y (List.mem_of_getElem? hp) with k | k
    · exact .inl ⟨k, bindL_get ndP hp hu k⟩
    · obtain ⟨c, e⟩ := cell_has (n := s.heap.objs.size + 1) k
      refine .inr ⟨.inl k, c, e, ?_⟩
      have q := x.cell y c e
      rw [bindC_get ndP hp hu (by show scope.names.lookup y ≠ _; rw [k]; decide)] at q
      exact q
  · exact e0.hok.fresh (Nat.le_of_lt (x.above y c (PySem.mem_of_lookup h)))
  · unfold start
    show _ = N.length
    rw [List.length_append, List.length_map, List.length_replicate]
    omega
theorem fn_of {CX : CXT} {P : Program} {w : World} {K : PySem.W.Frag} {mg : Str → Option Value} {base : Heap} {k : Nat} {f : Addr} {name qual : Str} {params : Arguments} {body : List Stmt} {scope : Scope} {dV kV doc pm cdv ct oc : Value} {an od : Option Addr}
    {osl : Array (Option Value)} {N ps : List Str} {sp : Sp} (lk : K.lookup f = some ⟨oc, od, .func (PySem.W.fnOf name qual params body scope dV kV doc pm an cdv ct), osl⟩) (hcd : PySem.W.codeIn K cdv qual = true) (S : FnScope N ps scope)
    (len : ∀ vs H Q E, sp vs H Q E → vs.length = ps.length)
    (hbody : ∀ (A : Around) (outer : List Env) (s : Shared) (H : Hp) (vs : List V) (Q : VK) (E : XK), Room k (A.deeper (envOfC qual scope s.heap.objs.size f cdv)) → sp vs H Q E →
      ∃ t, PSs (cxOf CX P w K mg base N qual scope f cdv A outer s H E) body t ∧ t { nx := fun _ H' => Q .non H', rt := Q } (start N vs) H) :
    FnOk P w K mg base CX (k + 1) f (PySem.W.fnOf name qual params body scope dV kV doc pm an cdv ct) ps sp := by
  refine ⟨len, fun A outer s H args us vs Q E hr e0 hb r hsp => ?_⟩
  have hl := len _ _ _ _ hsp
  have KX : K.In s.heap := e0.mod.kin.keeps fun b o e => (e0.bs b o e).1
  have lim : s.heap.NoLimit := e0.mod.nolimit.keeps fun b o e => (e0.bs b o e).1
  have hkind : ∀ y ∈ ps.zip us, scope.names.lookup y.1 = some .local ∨ (scope.names.lookup y.1 = some .cell ∧ ((cellsFrom (s.heap.objs.size + 1) scope.names []).lookup y.1).isSome = true) := fun ⟨n, v⟩ hy => by
    rcases S.par n (List.of_mem_zip hy).1 with q | q
    · exact .inl q
    · exact .inr ⟨q, PySem.W.cellsFrom_some _ _ _ (.inl q)⟩
  refine codeAny_call_function hr.depth (KX _ _ lk) rfl S.co S.gen rfl (PySem.W.codeRec_of KX hcd) (hb _ _ _ _ ?_)
  refine wpAny_newFunctionEnv_cells S.kind hkind fun env he s1 x => ?_
  subst he
  refine ⟨lim.keeps x.toInCall.keep, codeAny_func ?_⟩
  obtain ⟨t, ht, hq⟩ := hbody A outer s H vs Q E (hr.deeper _) hsp
  have I : Inv (cxOf CX P w K mg base N qual scope f cdv A outer s H E) [] (start N vs) H s1 := inv_start S hr.hd e0 hl r x
  refine wpAny_mono (ht [] s1 (start N vs) H _ I hq) (fun fl s' hs => ?_) fun e s' hs => hs
  have fin : ∀ {σ' : St} {H' : Hp} {v : V} {u : Value}, Inv (cxOf CX P w K mg base N qual scope f cdv A outer s H E) [] σ' H' s' → RelV v u → Q v H' → CE outer P w H s Q u s' :=
    fun {σ' H' v u} J rv q => ⟨v, H', J.os, J.bare, J.base, J.hok, rv, q⟩
  cases fl with
  | ret u =>
    obtain ⟨v, σ', H', J, rv, q⟩ := hs
    exact fin J rv q
  | next =>
    obtain ⟨σ', H', J, q⟩ := hs
    exact fin (v := V.non) (u := Value.none) J rfl q
  | brk =>
    obtain ⟨_, _, _, q⟩ := hs
    exact False.elim q
  | cont =>
    obtain ⟨_, _, _, q⟩ := hs
    exact False.elim q
end L2
namespace L2
open PySem PySem.Spec PyProof.Rows
section
variable {X : Cx} {x : Str} {p pos : Pos} {e : Expr} {es : List Expr} {t : TA} {id T : String} {r : List V → Hp → VK → Prop}
noncomputable def tCB (r : List V → Hp → VK → Prop) (t : TA) : TE := fun σ H Q => t σ H fun vs H1 => r vs H1 Q
theorem pe_callB (hc : CallR X (.builtin id) r) (hg : Gl X x) (hm : X.mg x = none) (hv : bootBuiltins x = some (.builtin id)) (ha : PA X (e :: es) t) (hn : x ≠ "__name__" := by decide) (hdb : (x == ("__debug__" : Str)) = false := by decide)
    (he : starEach (e :: es) X.env = (false, eval e X.env) :: starEach es X.env := by rfl) (hpl : (backTo pos (starEach es X.env)).any (·.1) = false := by rfl) : PE X (.Call (.Name x p) (e :: es) [] pos) (tCB r t) := by
  intro pins s σ H Q I h
  refine wpAny_Call_Name_kw (ld_blt I hg hm hv ?_ hn hdb)
  exact PyProof.Rows.callWith_builtin1 (thn (ha pos pins s σ H _ I h) fun us s1 ⟨vs, H1, I1, r1, q1⟩ => hc pins s1 σ H1 vs us Q I1 r1 q1) he hpl
theorem pe_callTy (hc : CallR X (.type T) r) (hg : Gl X x) (hm : X.mg x = none) (hv : bootBuiltins x = some (.type T)) (ha : PA X (e :: es) t) (hn : x ≠ "__name__" := by decide) (hdb : (x == ("__debug__" : Str)) = false := by decide)
    (he : starEach (e :: es) X.env = (false, eval e X.env) :: starEach es X.env := by rfl) (hpl : (backTo pos (starEach es X.env)).any (·.1) = false := by rfl) : PE X (.Call (.Name x p) (e :: es) [] pos) (tCB r t) := by
  intro pins s σ H Q I h
  refine wpAny_Call_Name_kw (ld_blt I hg hm hv ?_ hn hdb)
  exact PyProof.Rows.callWith_type1 (thn (ha pos pins s σ H _ I h) fun us s1 ⟨vs, H1, I1, r1, q1⟩ => hc pins s1 σ H1 vs us Q I1 r1 q1) he hpl
end
end L2
namespace HT
open PySem PyProof.Rows
noncomputable def lexLt : List Int → List Int → Bool
  | [], [] => false
  | [], _ :: _ => true
  | _ :: _, [] => false
  | x :: xs, y :: ys => if x = y then lexLt xs ys else decide (x < y)
section
open PySem.SeqAt
open PySem.AutoSeq1 (wpAny_loadPart')
open PySem.MeetsSeq PySem.MeetsSeq2 PySem.MeetsSeq3
end
section
variable {prog : Program} {w : World} {A : Around} {E : Value → Shared → Prop} {s : Shared}
theorem cat_tup {t b : Addr} {vs ws : List Value} {Q : Value → Shared → Prop} (ht : IsTup s.heap t vs.toArray) (hb : IsTup s.heap b ws.toArray) (hv : vs ≠ [])
    (h1 : ws = [] → Q (.ref t) s) (h2 : ws ≠ [] → Q (.ref s.heap.objs.size) { s with heap := s.heap.push { cls := .type "tuple", data := .seq (vs ++ ws).toArray } })
    (hsz : vs.length + ws.length ≤ sizeLine) : wpAny (model prog w) A (binaryOp .Add (.ref t) (.ref b)) Q E s := by
  obtain ⟨⟨cls, dd, data, sl⟩, ho, hc, n, hd⟩ := id ht
  obtain ⟨⟨cls2, dd2, data2, sl2⟩, ho2, hc2, n2, hd2⟩ := id hb
  simp only at hc hd hc2 hd2
  subst hc hd hc2 hd2
  have e : vs.toArray ++ ws.toArray = (vs ++ ws).toArray := by simp
  by_cases hw : ws = []
  · exact concat_meets ⟨_, ho, rfl⟩ ⟨_, ho2, rfl⟩ noFill_tuple_add seq_tuple_add PySem.F.slot_tuple_add PySem.F.entry_tuple_add (PySem.F.args_tuple_add_2 _ _)
      (tuple_addW1 t b vs.toArray ws.toArray n n2 dd dd2 sl sl2 (by simpa using hv) (by simp [hw])) ⟨ho, ho2, h1 hw⟩
  · refine concat_meets ⟨_, ho, rfl⟩ ⟨_, ho2, rfl⟩ noFill_tuple_add seq_tuple_add PySem.F.slot_tuple_add PySem.F.entry_tuple_add (PySem.F.args_tuple_add_2 _ _)
      (tuple_addW2 t b vs.toArray ws.toArray n n2 dd dd2 sl sl2 (by simpa using hv) (by simpa using hw) (by rw [List.size_toArray, List.size_toArray]; exact hsz)) ⟨ho, ho2, ?_⟩
    rw [e]
    exact h2 hw
noncomputable def sIx (n d : Nat) : Option Int → Nat
  | none => d
  | some v => if v < 0 then (v + (n : Int)).toNat else min v.toNat n
theorem sIx_none (n d : Nat) : sIx n d none = d := rfl
theorem sIx_nat (n d k : Nat) : sIx n d (some (k : Int)) = min k n := by
  show (if (k : Int) < 0 then ((k : Int) + (n : Int)).toNat else min (k : Int).toNat n) = min k n
  rw [if_neg (by omega), Int.toNat_natCast]
theorem sIx_le (n d : Nat) (hd : d ≤ n) (o : Option Int) : sIx n d o ≤ n := by
  cases o with
  | none => exact hd
  | some v =>
    show (if v < 0 then (v + (n : Int)).toNat else min v.toNat n) ≤ n
    by_cases hv : v < 0
    · rw [if_pos hv]; omega
    · rw [if_neg hv]; exact Nat.min_le_right _ _
theorem clip_eq (v : Int) (n d : Nat) : (if v < 0 then max (v + (n : Int)) 0 else min v (n : Int)) = ((sIx n d (some v) : Nat) : Int) := by
  show (if v < 0 then max (v + (n : Int)) 0 else min v (n : Int)) = (((if v < 0 then (v + (n : Int)).toNat else min v.toNat n) : Nat) : Int)
  by_cases hv : v < 0
  · simp only [if_pos hv]; omega
  · simp only [if_neg hv]; omega
theorem adjust_gen (lo hi : Option Int) (n : Nat) : Builtin.Slice.sliceAdjust lo hi 1 (n : Int) = (((sIx n 0 lo : Nat) : Int), ((sIx n n hi : Nat) : Int)) := by
  have h1 : ¬ ((1 : Int) < 0) := by omega
  unfold Builtin.Slice.sliceAdjust
  simp only [h1, if_false]
  refine Prod.ext ?_ ?_
  · cases lo with
    | none => rfl
    | some v => exact clip_eq v n 0
  · cases hi with
    | none => rfl
    | some v => exact clip_eq v n n
theorem places_gen (i j : Nat) : Builtin.Slice.slicePlaces (i : Int) (j : Int) 1 = j - i := by
  unfold Builtin.Slice.slicePlaces
  have h1 : (1 : Int) > 0 := by omega
  simp only [h1, if_true, Int.ediv_one]
  split <;> omega
theorem slicePart_ {v : Value} {o : Option Int} {Q : Option Int → Shared → Prop} (p : IsPart v o) (h : Q o s) : wpAny (model prog w) A (Builtin.Slice.slicePartIndex v) Q E s := by
  cases p with
  | none => exact slicePart_none h
  | int i t => exact slicePart_int h
theorem sliceApplied_gen {sl : Addr} {vl vu : Value} {lo hi : Option Int} {n : Nat} {Q : Int × Int × Nat → Shared → Prop} (hs : s.heap.IsSliceOf sl vl vu .none) (pl : IsPart vl lo) (pu : IsPart vu hi)
    (h : Q (((sIx n 0 lo : Nat) : Int), 1, sIx n n hi - sIx n 0 lo) s) : wpAny (model prog w) A (Builtin.Slice.sliceApplied (.ref sl) (pure (n : Int))) Q E s := by
  obtain ⟨os, hos, hcs, hds⟩ := id hs
  unfold Builtin.Slice.sliceApplied Builtin.Slice.sliceFields
  refine wpAny_bind (wpAny_bind (wpAny_field hos hds (x := vl) rfl (wpAny_bind (wpAny_field hos hds (x := vu) rfl (wpAny_bind (wpAny_field hos hds (x := .none) rfl (wpAny_pure ?_)))))))
  refine wpAny_bind (slicePart_none ?_)
  show wpAny _ _ (if ((1 : Int) == 0) = true then _ else _) _ _ s
  rw [if_neg (by decide)]
  refine wpAny_bind (slicePart_ pl (wpAny_bind (slicePart_ pu (wpAny_bind (wpAny_pure ?_)))))
  show wpAny _ _ (match Builtin.Slice.sliceAdjust lo hi 1 (n : Int) with | (lo, hi) => pure (lo, (1 : Int), Builtin.Slice.slicePlaces lo hi 1)) _ _ s
  rw [adjust_gen lo hi n]
  show wpAny _ _ (pure (((sIx n 0 lo : Nat) : Int), (1 : Int), Builtin.Slice.slicePlaces ((sIx n 0 lo : Nat) : Int) ((sIx n n hi : Nat) : Int) 1)) _ _ s
  rw [places_gen]
  exact wpAny_pure h
theorem pick_gen (xs : Array Value) (i k : Nat) : ((List.range k).filterMap fun (m : Nat) => xs[((i : Int) + (m : Int) * 1).toNat]?).toArray = ((xs.toList.drop i).take k).toArray := by
  have e : (fun (m : Nat) => xs[((i : Int) + (m : Int) * 1).toNat]?) = fun m => xs[i + m]? := by
    funext m
    have : ((i : Int) + (m : Int) * 1).toNat = i + m := by omega
    rw [this]
  rw [e]
  have := pick_run xs i k
  rw [List.filterMap_map] at this
  have e2 : ((fun x => xs[x]?) ∘ fun x => i + x) = fun m => xs[i + m]? := rfl
  rw [e2] at this
  rw [this]
theorem getItem_tuple_cut {t sl : Addr} {items : Array Value} {vl vu : Value} {lo hi : Option Int} {Q : Value → Shared → Prop} (ht : IsTup s.heap t items) (hs : s.heap.IsSliceOf sl vl vu .none) (pl : IsPart vl lo) (pu : IsPart vu hi)
    (hw : ¬ (sIx items.size 0 lo = 0 ∧ sIx items.size items.size hi = items.size))
    (h : Q (.ref s.heap.objs.size) { s with heap := s.heap.push { cls := .type "tuple", data := .seq ((items.toList.drop (sIx items.size 0 lo)).take (sIx items.size items.size hi - sIx items.size 0 lo)).toArray } })
    (hsz : items.size ≤ sizeLine) : wpAny (model prog w) A (getItem (.ref t) (.ref sl)) Q E s := by
  have htake : sizeOk (.seq ((items.toList.drop (sIx items.size 0 lo)).take (sIx items.size items.size hi - sIx items.size 0 lo)).toArray) := by
    show ((items.toList.drop (sIx items.size 0 lo)).take (sIx items.size items.size hi - sIx items.size 0 lo)).toArray.size ≤ sizeLine
    rw [List.size_toArray, List.length_take, List.length_drop, Array.length_toList]
    omega
  have hj : sIx items.size items.size hi ≤ items.size := sIx_le _ _ (Nat.le_refl _) hi
  obtain ⟨os, hos, hcs, hds⟩ := id hs
  have hTs : s.TypeIs (.ref sl) "slice" := ⟨os, hos, hcs⟩
  unfold getItem
  try with_reducible refine wpAny_holding ?_
  first | refine wpAny_bind (wpAny_pure ?_) | skip
  refine wpAny_bind (wpAny_sequenceKey ht.typeIs (by decide) ?_)
  refine wpAny_bind (wpAny_callSpecial?_slot (name := Str.ofString "__getitem__") ht.typeIs PyProof.Rows.slot_tuple_getitem
    (wpAny_call_entry PyProof.Rows.slot_tuple_getitem ht.typeIs entry_tuple_getitem ?_ (args_tuple_getitem _ _)))
  show wpAny _ _ (Builtin.Tuple.tupleItemsOf (.ref t) >>= _) _ _ s
  refine wpAny_bind (tupleItemsOf_ ht ?_)
  refine wpAny_bind (wpAny_typeOf hTs ?_)
  rw [if_pos (by decide)]
  refine wpAny_bind (sliceApplied_gen hs pl pu ?_)
  have hno : ¬ ((((sIx items.size 0 lo : Nat) : Int) == 0 && (1 : Int) == 1 && (sIx items.size items.size hi - sIx items.size 0 lo) == items.size) = true) := by
    intro q
    rw [Bool.and_eq_true, Bool.and_eq_true] at q
    have q1 : ((sIx items.size 0 lo : Nat) : Int) = 0 := eq_of_beq q.1.1
    have q2 : sIx items.size items.size hi - sIx items.size 0 lo = items.size := eq_of_beq q.2
    exact hw ⟨by omega, by omega⟩
  show wpAny _ _ (if (((sIx items.size 0 lo : Nat) : Int) == 0 && (1 : Int) == 1 && (sIx items.size items.size hi - sIx items.size 0 lo) == items.size) = true then _ else _) _ _ s
  rw [if_neg hno, pick_gen]
  first
    | exact wpAny_bind (m := Builtin.Tuple.tupleExact _) (wpAny_newObj_type (wpAny_pure ⟨_, rfl, wpAny_pure h⟩) htake)
    | exact wpAny_bind (m := Builtin.Tuple.tupleExact _) (wpAny_newObj_type (wpAny_bind (wpAny_pure (wpAny_pure ⟨_, rfl, wpAny_pure h⟩))) htake)
    | exact wpAny_bind (wpAny_bind (m := Builtin.Tuple.tupleExact _) (wpAny_newObj_type (wpAny_pure (wpAny_pure ⟨_, rfl, wpAny_pure h⟩)) htake))
    | exact wpAny_bind (wpAny_bind (m := Builtin.Tuple.tupleExact _) (wpAny_newObj_type (wpAny_pure ⟨_, rfl, wpAny_pure h⟩) htake))
end
end HT
namespace L2
open PySem PySem.Spec PyProof.Rows
noncomputable abbrev TO := St → Hp → (Option Int → Hp → Prop) → Prop
noncomputable def PO (X : Cx) (e : Option Expr) (t : TO) : Prop :=
  ∀ (pins : List (Addr × Obj)) (s : Shared) (σ : St) (H : Hp) (Q : Option Int → Hp → Prop), Inv X pins σ H s → t σ H Q →
    wpAny (model X.prog X.w) X.A (evalPart e X.env) (fun u s' => ∃ o H', Inv X pins σ H' s' ∧ IsPart u o ∧ Q o H') X.xe s
noncomputable def tNoPart : TO := fun _ H Q => Q none H
noncomputable def tPart (t : TE) : TO := fun σ H Q => t σ H fun x H1 => ∃ i, x = .int i ∧ Q (some i) H1
theorem intsAre_of {ns : List Int} : ∀ {us : List Value}, Vals (ns.map V.int) us → IntsAre us ns := by
  induction ns with
  | nil => intro us r; rw [List.map_nil] at r; cases r; exact .nil
  | cons n ns ih =>
    intro us r
    rw [List.map_cons] at r
    cases r with
    | cons r1 r2 =>
      obtain ⟨t, e⟩ := r1
      subst e
      exact .cons n t (ih r2)
section
variable {X : Cx} {e : Expr} {te : TE} {lo hi : Option Expr} {tl th : TO} {pos p2 : Pos}
theorem po_none : PO X none tNoPart := by
  intro pins s σ H Q I h
  rw [evalPart_none]
  exact wpAny_pure ⟨none, H, I, .none, h⟩
theorem po_some (h : PE X e te) : PO X (some e) (tPart te) := by
  intro pins s σ H Q I hw
  rw [evalPart_some]
  refine thn (h pins s σ H _ I hw) fun u s1 ⟨x, H1, I1, r1, q1⟩ => ?_
  obtain ⟨i, rfl, q⟩ := q1
  obtain ⟨t, rfl⟩ := r1
  exact ⟨some i, H1, I1, .int i t, q⟩
noncomputable def SlR (X : Cx) (r : V → Option Int → Option Int → Hp → VK → Prop) : Prop :=
  ∀ (pins : List (Addr × Obj)) (s : Shared) (σ : St) (H : Hp) (x : V) (v vl vu : Value) (lo hi : Option Int) (sl : Addr) (Q : VK), Inv X pins σ H s → RelV x v → s.heap.IsSliceOf sl vl vu .none → IsPart vl lo → IsPart vu hi → r x lo hi H Q →
    ∃ T id, typeLookup (.type T) "__getitem__" = pure (some (.builtin id)) ∧ s.TypeIs v T ∧ wpAny (model X.prog X.w) X.A (getItem v (.ref sl)) (EP X pins σ Q) X.xe s
noncomputable def tSl (r : V → Option Int → Option Int → Hp → VK → Prop) (te : TE) (tl th : TO) : TE := fun σ H Q => te σ H fun x H1 => tl σ H1 fun l H2 => th σ H2 fun u H3 => r x l u H3 Q
theorem pe_slice {r : V → Option Int → Option Int → Hp → VK → Prop} (hr : SlR X r) (he : PE X e te) (hl : PO X lo tl) (hu : PO X hi th) : PE X (.Subscript e (.Slice lo hi none p2) pos) (tSl r te tl th) := by
  intro pins s σ H Q I h
  refine Subscript_ (thn (he pins s σ H _ I h) fun v s1 ⟨x, H1, I1, r1, q1⟩ => ?_)
  refine wpAny_Slice (thn (hl pins s1 σ H1 _ I1 q1) fun vl s2 ⟨l, H2, I2, pl, q2⟩ => thn (hu pins s2 σ H2 _ I2 q2) fun vu s3 ⟨u, H3, I3, pu, q3⟩ => ?_)
  rw [evalPart_none]
  refine wpAny_pure ?_
  have I4 : Inv X pins σ H3 { s3 with heap := s3.heap.push { cls := .type "slice", data := .fields #[vl, vu, .none] } } := I3.kept (t' := s3.toks) fun b ob q => Heap.get?_push_of_some _ q
  obtain ⟨T, id, hT, ht, hg⟩ := hr pins { s3 with heap := s3.heap.push { cls := .type "slice", data := .fields #[vl, vu, .none] } } σ H3 x v vl vu l u s3.heap.objs.size Q I4 r1 (Heap.IsSliceOf.new ..) pl pu q3
  show wpAny (model X.prog X.w) X.A (subscriptTail e (.Slice lo hi none p2) v (.ref s3.heap.objs.size)) (EP X pins σ Q) X.xe { s3 with heap := s3.heap.push { cls := .type "slice", data := .fields #[vl, vu, .none] } }
  exact tail_any (ops := [.ref s3.heap.objs.size, v]) ht hT hg (by with_unfolding_all rfl)
noncomputable def cutV (xs : List V) (lo hi : Option Int) : List V := (xs.drop (HT.sIx xs.length 0 lo)).take (HT.sIx xs.length xs.length hi - HT.sIx xs.length 0 lo)
theorem cutV_length (xs : List V) (lo hi : Option Int) : (cutV xs lo hi).length ≤ xs.length := by
  unfold cutV
  rw [List.length_take, List.length_drop]
  omega
noncomputable def rSlT (K : PySem.W.Frag) : V → Option Int → Option Int → Hp → VK → Prop := fun x lo hi H Q => ∃ a xs, x = .ref a ∧ SqT K H a xs ∧
  ¬ (HT.sIx xs.length 0 lo = 0 ∧ HT.sIx xs.length xs.length hi = xs.length) ∧ ∀ p, H p = none → Q (.ref p) (upd H p (.tup (cutV xs lo hi)))
theorem sl_tup : SlR X (rSlT X.K) := by
  intro pins s σ H x v vl vu lo hi sl Q I rx hs pl pu h
  obtain ⟨a, xs, rfl, hx, hw, q⟩ := h
  cases rx
  obtain ⟨its, r, ht, hz⟩ := I.tuple hx
  have hlen : its.toArray.size = xs.length := by rw [List.size_toArray]; exact r.length.symm
  refine ⟨"tuple", _, PyProof.Rows.slot_tuple_getitem.lookup, ht.typeIs, ?_⟩
  refine HT.getItem_tuple_cut ht hs pl pu (by rw [hlen]; exact hw) ?_ (by rw [hlen]; exact hz)
  rw [hlen]
  refine ⟨.ref s.heap.objs.size, _, I.laid (t' := s.toks) (o := .tup (cutV xs lo hi)) (fun b ob q => Heap.get?_push_of_some _ q) (Nat.le_refl _) ?_, rfl, q _ (I.hok.fresh (Nat.le_refl _))⟩
  exact ⟨Nat.le_trans (cutV_length xs lo hi) hz, _, (r.drop (HT.sIx xs.length 0 lo)).take (HT.sIx xs.length xs.length hi - HT.sIx xs.length 0 lo), IsTup.new _ _⟩
noncomputable def rLtT (K : PySem.W.Frag) : R2 := fun x y H Q => ∃ a b ns ms, x = .ref a ∧ y = .ref b ∧ SqT K H a (ns.map V.int) ∧ SqT K H b (ms.map V.int) ∧ Q (.bl (HT.lexLt ns ms)) H
noncomputable def rCatT (K : PySem.W.Frag) : R2 := fun x y H Q => ∃ a b xs ys, x = .ref a ∧ y = .ref b ∧ SqT K H a xs ∧ SqT K H b ys ∧ xs ≠ [] ∧ xs.length + ys.length ≤ sizeLine ∧
  (ys = [] → Q (.ref a) H) ∧ (ys ≠ [] → ∀ p, H p = none → Q (.ref p) (upd H p (.tup (xs ++ ys))))
theorem Vals.nil_iff {xs : List V} {us : List Value} (r : Vals xs us) : us = [] ↔ xs = [] := by
  cases r with
  | nil => simp
  | cons _ _ => simp
theorem op_catT : OpR X (binaryOp .Add) (rCatT X.K) := by
  intro pins s σ H x y v u Q I rx ry h
  obtain ⟨a, b, xs, ys, rfl, rfl, ha, hb, hx, hz, q1, q2⟩ := h
  cases rx
  cases ry
  obtain ⟨its, r1, p1, _⟩ := I.tuple ha
  obtain ⟨its2, r2, p2, _⟩ := I.tuple hb
  refine HT.cat_tup p1 p2 (fun z => hx (r1.nil_iff.mp z)) (fun z => ⟨.ref a, H, I, rfl, q1 (r2.nil_iff.mp z)⟩) (fun z => ?_) (by rw [← r1.length, ← r2.length]; exact hz)
  refine ⟨.ref s.heap.objs.size, _, I.laid (t' := s.toks) (o := .tup (xs ++ ys)) (fun b ob q => Heap.get?_push_of_some _ q) (Nat.le_refl _) ?_, rfl, q2 (fun w => z (r2.nil_iff.mpr w)) _ (I.hok.fresh (Nat.le_refl _))⟩
  exact ⟨by rw [List.length_append]; exact hz, _, r1.append r2, IsTup.new _ _⟩
end
end L2
namespace L2
open PySem PySem.Spec PyProof.Rows
noncomputable def ixN (n : Nat) (i : Int) : Option Nat := if 0 ≤ i then (if i < n then some i.toNat else none) else if -(n : Int) ≤ i then some (i + n).toNat else none
noncomputable def atI {α : Type} (xs : List α) (i : Int) : Option α := (ixN xs.length i).bind fun j => xs[j]?
theorem ixN_seq {n : Nat} {i : Int} {j : Nat} (h : ixN n i = some j) : seqIndex? i n = some j ∧ j < n ∧ -(n : Int) ≤ i ∧ i < n := by
  unfold ixN at h
  by_cases h0 : 0 ≤ i
  · rw [if_pos h0] at h
    by_cases h1 : i < n
    · rw [if_pos h1] at h
      have e : i.toNat = j := Option.some.inj h
      exact ⟨by rw [seqIndex_of h0 h1, e], by omega, by omega, h1⟩
    · rw [if_neg h1] at h; cases h
  · rw [if_neg h0] at h
    by_cases h1 : -(n : Int) ≤ i
    · rw [if_pos h1] at h
      have e : (i + n).toNat = j := Option.some.inj h
      exact ⟨by rw [seqIndex_neg (by omega) h1, e], by omega, h1, by omega⟩
    · rw [if_neg h1] at h; cases h
theorem atI_get {α : Type} {xs : List α} {i : Int} {v : α} (h : atI xs i = some v) : ∃ j, seqIndex? i xs.length = some j ∧ xs[j]? = some v ∧ j < xs.length ∧ -(xs.length : Int) ≤ i ∧ i < xs.length := by
  unfold atI at h
  cases e : ixN xs.length i with
  | none => rw [e] at h; cases h
  | some j =>
    rw [e] at h
    obtain ⟨h1, h2, h3, h4⟩ := ixN_seq e
    exact ⟨j, h1, h, h2, h3, h4⟩
theorem atI_nat {α : Type} {xs : List α} {j : Nat} {v : α} (h : xs[j]? = some v) : atI xs (j : Int) = some v := by
  have hj : j < xs.length := (List.getElem?_eq_some_iff.mp h).1
  have e : ixN xs.length (j : Int) = some j := by
    unfold ixN
    rw [if_pos (by omega), if_pos (by omega)]; simp
  unfold atI; rw [e]; exact h
noncomputable def PlainIx (b : Expr) : Prop := ∀ o i, subscripted b false o i = operate [o, i] (getItem o i)
noncomputable def IxR (X : Cx) (r : R2) : Prop :=
  ∀ (value slice : Expr) (pins : List (Addr × Obj)) (s : Shared) (σ : St) (H : Hp) (x y : V) (v u : Value) (Q : VK), Inv X pins σ H s → RelV x v → RelV y u → r x y H Q →
    subscripted slice false v u = operate [v, u] (getItem v u) → wpAny (model X.prog X.w) X.A (subscriptTail value slice v u) (EP X pins σ Q) X.xe s
noncomputable def MtR (X : Cx) (id : String) (r : V → List V → Hp → VK → Prop) : Prop :=
  ∀ (pins : List (Addr × Obj)) (s : Shared) (σ : St) (H : Hp) (x : V) (xs : List V) (v : Value) (us : List Value) (Q : VK), Inv X pins σ H s → RelV x v → Vals xs us → r x xs H Q →
    wpAny (model X.prog X.w) X.A (call (.builtin id) (v :: us)) (EP X pins σ Q) X.xe s
section
variable {X : Cx} {a b : Expr} {ta tb : TE} {pos : Pos}
theorem MtR.or {id : String} {r r' : V → List V → Hp → VK → Prop} (h : MtR X id r) (h' : MtR X id r') : MtR X id (fun x xs H Q => r x xs H Q ∨ r' x xs H Q) := by
  intro pins s σ H x xs v us Q I rx rs q
  rcases q with q | q
  · exact h pins s σ H x xs v us Q I rx rs q
  · exact h' pins s σ H x xs v us Q I rx rs q
theorem pe_ix {r : R2} (hr : IxR X r) (ha : PE X a ta) (hb : PE X b tb) (hs : PlainIx b) : PE X (.Subscript a b pos) (tOp r ta tb) := by
  intro pins s σ H Q I h
  exact Subscript_ (binT ha hb I h fun v u s2 x y H2 I2 rx ry q => hr a b pins s2 σ H2 x y v u Q I2 rx ry q (hs _ _))
noncomputable def rIxL (K : PySem.W.Frag) : R2 := fun x y H Q => ∃ p xs i v, x = .ref p ∧ y = .int i ∧ SqL K H p xs ∧ atI xs i = some v ∧ Q v H
noncomputable def rIxT (K : PySem.W.Frag) : R2 := fun x y H Q => ∃ p xs i v, x = .ref p ∧ y = .int i ∧ SqT K H p xs ∧ atI xs i = some v ∧ Q v H
noncomputable def rIxS : R2 := fun x y H Q => ∃ z i c, x = .str z ∧ y = .int i ∧ z.length ≤ sizeLine ∧ atI z.cps.toList i = some c ∧ Q (.str ⟨#[c]⟩) H
theorem ix_list : IxR X (rIxL X.K) := by
  intro value slice pins s σ H x y v u Q I rx ry h hs
  obtain ⟨p, xs, i, z, rfl, rfl, hq, he, q⟩ := h
  cases rx
  obtain ⟨t, rfl⟩ := ry
  obtain ⟨its, r, pl, hz⟩ := I.list hq
  obtain ⟨j, h1, h2, h3, h4, h5⟩ := atI_get he
  obtain ⟨w, ew, rw'⟩ := r.get h2
  have hl := r.length
  have hn := line63
  have fin : EP X pins σ Q w s := ⟨z, H, I, rw', q⟩
  by_cases h0 : 0 ≤ i
  · have hj : i.toNat = j := by
      rw [seqIndex_of h0 h5] at h1
      exact Option.some.inj h1
    exact item_listR pl.isList h0 (by omega) (by rw [hj]; simpa using ew) fin hs
  · have hj : (i + (its.toArray.size : Int)).toNat = j := by
      rw [seqIndex_neg (by omega) h4] at h1
      rw [List.size_toArray, ← hl]
      exact Option.some.inj h1
    exact subscriptTail_builtinR (x := w) pl.isList.typeIs slot_list_getitem.lookup
      (wpAny_getItem_list_neg (Q := fun r s' => r = w ∧ EP X pins σ Q r s') pl.isList (by omega) (by rw [List.size_toArray] <;> omega) (by omega) (by rw [hj]; simpa using ew) ⟨rfl, fin⟩) hs
theorem ix_tup : IxR X (rIxT X.K) := by
  intro value slice pins s σ H x y v u Q I rx ry h hs
  obtain ⟨p, xs, i, z, rfl, rfl, hq, he, q⟩ := h
  cases rx
  obtain ⟨t, rfl⟩ := ry
  obtain ⟨its, r, pl, hz⟩ := I.tuple hq
  obtain ⟨j, h1, h2, h3, h4, h5⟩ := atI_get he
  obtain ⟨w, ew, rw'⟩ := r.get h2
  have hl := r.length
  have hn := line63
  have fin : EP X pins σ Q w s := ⟨z, H, I, rw', q⟩
  exact subscriptTail_builtinR (x := w) pl.typeIs slot_tuple_getitem.lookup
    (getItem_tuple (j := j) (Q := fun r s' => r = w ∧ EP X pins σ Q r s') pl (by omega) (by omega) (by rw [List.size_toArray, ← hl]; exact h1) (by simpa using ew) ⟨rfl, fin⟩) hs
theorem ix_str : IxR X rIxS := by
  intro value slice pins s σ H x y v u Q I rx ry h hs
  obtain ⟨z, i, c, rfl, rfl, hz, he, q⟩ := h
  obtain ⟨t, rfl⟩ := rx
  obtain ⟨t', rfl⟩ := ry
  obtain ⟨j, h1, h2, h3, h4, h5⟩ := atI_get he
  have hl : z.cps.toList.length = z.length := by simp [Str.length]
  rw [hl] at h1 h4 h5
  have hn := line63
  exact tail_any (typeIs_str s z t) slot_str_getitem.lookup (getItem_str (c := c) (by
    have e1 : decide (i < -(2 ^ 63 : Int)) = false := decide_eq_false (by omega)
    have e2 : decide (i ≥ 2 ^ 63) = false := decide_eq_false (by omega)
    rw [e1, e2, Bool.or_false]) (by rw [h1]; simpa using h2) ⟨.str ⟨#[c]⟩, H, I.tok _, ⟨_, rfl⟩, q⟩) hs
noncomputable def rIx (K : PySem.W.Frag) : R2 := fun x y H Q => rIxL K x y H Q ∨ rIxT K x y H Q ∨ rIxS x y H Q
noncomputable def rSetL : V → V → V → Hp → (Hp → Prop) → Prop := fun o i v H Q => ∃ p xs k j, o = .ref p ∧ i = .int k ∧ H p = some (.lst xs) ∧ ixN xs.length k = some j ∧ Q (upd H p (.lst (xs.set j v)))
theorem slice_bounds (lo hi : Option Int) (n : Nat) : (sliceBounds lo hi none n).1 = ((HT.sIx n 0 lo : Nat) : Int) ∧ (sliceBounds lo hi none n).2.1 = ((HT.sIx n n hi : Nat) : Int) ∧ (sliceBounds lo hi none n).2.2 = 1 := by
  refine ⟨?_, ?_, rfl⟩
  · cases lo with
    | none => simp [sliceBounds, HT.sIx]
    | some i =>
      simp only [sliceBounds, HT.sIx, Option.getD_none, show (1 : Int) > 0 by decide, if_true]
      by_cases h : i < 0
      · simp only [h, if_true] <;> omega
      · simp only [h, if_false] <;> omega
  · cases hi with
    | none => simp [sliceBounds, HT.sIx]
    | some i =>
      simp only [sliceBounds, HT.sIx, Option.getD_none, show (1 : Int) > 0 by decide, if_true]
      by_cases h : i < 0
      · simp only [h, if_true] <;> omega
      · simp only [h, if_false] <;> omega
theorem slicePick_cut (its : List Value) (lo hi : Option Int) : slicePick its.toArray lo hi none = ((its.drop (HT.sIx its.length 0 lo)).take (HT.sIx its.length its.length hi - HT.sIx its.length 0 lo)).toArray := by
  obtain ⟨h1, h2, h3⟩ := slice_bounds lo hi its.toArray.size
  unfold slicePick
  rw [h1, h2, h3]
  simp only [sliceRange_one, pick_run, List.size_toArray] <;> rfl
noncomputable def rSlL (K : PySem.W.Frag) : V → Option Int → Option Int → Hp → VK → Prop := fun x lo hi H Q => ∃ a xs, x = .ref a ∧ SqL K H a xs ∧ ∀ p, H p = none → Q (.ref p) (upd H p (.lst (cutV xs lo hi)))
theorem sl_list : SlR X (rSlL X.K) := by
  intro pins s σ H x v vl vu lo hi sl Q I rx hs pl pu h
  obtain ⟨a, xs, rfl, hx, q⟩ := h
  cases rx
  obtain ⟨its, r, ht, hz⟩ := I.list hx
  have hlen := r.length
  refine ⟨"list", _, slot_list_getitem.lookup, ht.isList.typeIs, ?_⟩
  refine wpAny_getItem_list_slice ht.isList hs pl pu .none (by simp) ?_ (by rw [List.size_toArray] <;> omega)
  rw [slicePick_cut, ← hlen]
  refine ⟨.ref s.heap.objs.size, _, I.laid (t' := s.toks) (o := .lst (cutV xs lo hi)) (fun b ob q => Heap.get?_push_of_some _ q) (Nat.le_refl _) ?_, rfl, q _ (I.hok.fresh (Nat.le_refl _))⟩
  exact ⟨Nat.le_trans (cutV_length xs lo hi) hz, _, 0, (r.drop (HT.sIx xs.length 0 lo)).take (HT.sIx xs.length xs.length hi - HT.sIx xs.length 0 lo), Heap.get?_push_size _ rfl⟩
noncomputable def flatV : V → Bool
  | .non => true
  | .bl _ => true
  | .int _ => true
  | .str _ => true
  | _ => false
noncomputable def eqV : V → V → Bool
  | .non, .non => true
  | .bl a, .bl b => a == b
  | .bl a, .int b => (if a then 1 else 0) == b
  | .int a, .bl b => a == (if b then 1 else 0)
  | .int a, .int b => a == b
  | .str a, .str b => a == b
  | _, _ => false
theorem eqAt_V {A : Around} {s : Shared} {y x : V} {u v : Value} (ry : RelV y u) (rx : RelV x v) (fy : flatV y = true) (fx : flatV x = true) : SeqAt.EqAt A s u v (eqV y x) := by
  cases y with
  | non =>
    cases ry
    cases x with
    | non => cases rx; exact SeqAt.EqAt.same _
    | bl b => cases rx; exact SeqAt.EqAt.none_bool b
    | int b => obtain ⟨t, rfl⟩ := rx; exact SeqAt.EqAt.none_int b t
    | str b => obtain ⟨t, rfl⟩ := rx; exact SeqAt.EqAt.none_str b t
    | _ => exact absurd (show false = true from fx) Bool.false_ne_true
  | bl a =>
    cases ry
    cases x with
    | non => cases rx; exact SeqAt.EqAt.bool_none a
    | bl b => cases rx; exact SeqAt.EqAt.bool_bool a b
    | int b => obtain ⟨t, rfl⟩ := rx; exact SeqAt.EqAt.bool_int a b t
    | str b => obtain ⟨t, rfl⟩ := rx; exact SeqAt.EqAt.bool_str a b t
    | _ => exact absurd (show false = true from fx) Bool.false_ne_true
  | int a =>
    obtain ⟨t', rfl⟩ := ry
    cases x with
    | non => cases rx; exact SeqAt.EqAt.int_none a t'
    | bl b => cases rx; exact SeqAt.EqAt.int_bool a t' b
    | int b => obtain ⟨t, rfl⟩ := rx; exact SeqAt.EqAt.int_int a t' b t
    | str b => obtain ⟨t, rfl⟩ := rx; exact SeqAt.EqAt.int_str a t' b t
    | _ => exact absurd (show false = true from fx) Bool.false_ne_true
  | str a =>
    obtain ⟨t', rfl⟩ := ry
    cases x with
    | non => cases rx; exact SeqAt.EqAt.str_none a t'
    | bl b => cases rx; exact SeqAt.EqAt.str_bool a t' b
    | int b => obtain ⟨t, rfl⟩ := rx; exact SeqAt.EqAt.str_int a t' b t
    | str b => obtain ⟨t, rfl⟩ := rx; exact SeqAt.EqAt.str_str a t' b t
    | _ => exact absurd (show false = true from fx) Bool.false_ne_true
  | _ => exact absurd (show false = true from fy) Bool.false_ne_true
noncomputable def eqU (x : V) (u : Value) : Bool := match u with
  | .none => eqV .non x
  | .bool b => eqV (.bl b) x
  | .int i _ => eqV (.int i) x
  | .str z _ => eqV (.str z) x
  | _ => false
theorem eqU_of {x y : V} {u : Value} (r : RelV y u) (f : flatV y = true) : eqU x u = eqV y x := by
  cases y with
  | non => cases r; rfl
  | bl b => cases r; rfl
  | int i => obtain ⟨t, rfl⟩ := r; rfl
  | str z => obtain ⟨t, rfl⟩ := r; rfl
  | _ => exact absurd (show false = true from f) Bool.false_ne_true
theorem any_eqU {x : V} : ∀ {xs : List V} {us : List Value}, Vals xs us → xs.all flatV = true → us.any (eqU x) = xs.any fun y => eqV y x
  | _, _, .nil, _ => rfl
  | y :: xs, u :: us, .cons r t, f => by
    rw [List.all_cons, Bool.and_eq_true] at f
    rw [List.any_cons, List.any_cons, eqU_of r f.1, any_eqU t f.2]
theorem mem_eqAt {A : Around} {s : Shared} {x : V} {v : Value} (rx : RelV x v) (fx : flatV x = true) : ∀ {xs : List V} {us : List Value}, Vals xs us → xs.all flatV = true → ∀ u ∈ us, SeqAt.EqAt A s u v (eqU x u)
  | _, _, .nil, _ => fun u hu => by cases hu
  | y :: xs, u :: us, .cons r t, f => fun u' hu => by
    rw [List.all_cons, Bool.and_eq_true] at f
    rcases List.mem_cons.mp hu with rfl | hu
    · rw [eqU_of r f.1]; exact eqAt_V r rx f.1 fx
    · exact mem_eqAt rx fx t f.2 u' hu
noncomputable def inV (x : V) (xs : List V) : Bool := xs.any fun y => eqV y x
noncomputable def rIn (K : PySem.W.Frag) (neg : Bool) : R2 := fun x y H Q => ∃ p xs, y = .ref p ∧ (SqL K H p xs ∨ SqT K H p xs) ∧ flatV x = true ∧ xs.all flatV = true ∧ Q (.bl (if neg then !inV x xs else inV x xs)) H
theorem op_in_seq : OpR X (compareOp .In) (rIn X.K false) := by
  intro pins s σ H x y v u Q I rx ry h
  obtain ⟨p, xs, rfl, hq, fx, fs, q⟩ := h
  cases ry
  rcases hq with hq | hq
  · obtain ⟨its, r, pl, hz⟩ := I.list hq
    refine SeqAt.in_listAt (eqU x) pl.isList (fun w hw => mem_eqAt rx fx r fs w (by simpa using hw)) ⟨.bl _, H, I, rfl, ?_⟩
    rw [show its.toArray.any (eqU x) = its.any (eqU x) by simp, any_eqU r fs]
    exact q
  · obtain ⟨its, r, pl, hz⟩ := I.tuple hq
    refine SeqAt.in_tupleAt (eqU x) pl (fun w hw => mem_eqAt rx fx r fs w (by simpa using hw)) ⟨.bl _, H, I, rfl, ?_⟩
    rw [show its.toArray.any (eqU x) = its.any (eqU x) by simp, any_eqU r fs]
    exact q
theorem call_len_seq : CallR X (.builtin "len") (fun xs H Q => ∃ p ys, xs = [.ref p] ∧ (SqL X.K H p ys ∨ SqT X.K H p ys) ∧ Q (.int ys.length) H) := by
  intro pins s σ H xs us Q I r h
  obtain ⟨p, ys, rfl, hq, q⟩ := h
  obtain ⟨u, rfl, rx⟩ := vals1 r
  cases rx
  have hn := line63
  rcases hq with hq | hq
  · obtain ⟨its, r', pl, hz⟩ := I.list hq
    have hlen := r'.length
    exact Calls.call_len_list pl.isList (by simp only [List.size_toArray] <;> omega) ⟨.int ys.length, H, I.tok _, ⟨s.toks + 1, by rw [List.size_toArray, hlen]⟩, q⟩
  · obtain ⟨its, r', pl, hz⟩ := I.tuple hq
    have hlen := r'.length
    exact len_tuple pl (by simp only [List.size_toArray] <;> omega) ⟨.int ys.length, H, I.tok _, ⟨s.toks + 1, by rw [List.size_toArray, hlen]⟩, q⟩
theorem call_len_str : CallR X (.builtin "len") (fun xs H Q => ∃ z, xs = [.str z] ∧ z.length ≤ sizeLine ∧ Q (.int z.length) H) := by
  intro pins s σ H xs us Q I r h
  obtain ⟨z, rfl, hz, q⟩ := h
  obtain ⟨u, rfl, t, rfl⟩ := vals1 r
  have hn := line63
  exact len_str (by omega) ⟨.int z.length, H, I.tok _, ⟨_, rfl⟩, q⟩
theorem call_list_of : CallR X (.type "list") (fun xs H Q => ∃ p ys, xs = [.ref p] ∧ (SqL X.K H p ys ∨ SqT X.K H p ys) ∧ ∀ l, H l = none → Q (.ref l) (upd H l (.lst ys))) := by
  intro pins s σ H xs us Q I r h
  obtain ⟨p, ys, rfl, hq, q⟩ := h
  obtain ⟨u, rfl, rx⟩ := vals1 r
  cases rx
  have fin : ∀ (its : List Value), Vals ys its → ys.length ≤ sizeLine → ∀ (h' : Heap) (c' : Nat), (∀ b o', s.heap.get? b = some o' → h'.get? b = some o') →
      h'.get? s.heap.objs.size = some { cls := .type "list", dict := none, data := .seq its.toArray c', slots := #[] } → EP X pins σ Q (.ref s.heap.objs.size) { s with heap := h' } := fun its r' hz h' c' kp e =>
    ⟨.ref s.heap.objs.size, _, I.laid (t' := s.toks) kp (Nat.le_refl _) (show ObjOk X.prog X.w _ h' _ (.lst ys) from ⟨hz, its, c', r', e⟩), rfl, q _ (I.hok.fresh (Nat.le_refl _))⟩
  rcases hq with hq | hq
  · obtain ⟨its, r', pl, hz⟩ := I.list hq
    have hlen := r'.length
    obtain ⟨o, ho, hc, n, hd⟩ := pl.isList
    exact call_list_seq p (.inl rfl) ho hc hd (fun h' c' kp e => fin its r' hz h' c' kp e) (by simp only [List.size_toArray] <;> omega)
  · obtain ⟨its, r', pl, hz⟩ := I.tuple hq
    have hlen := r'.length
    obtain ⟨o, ho, hc, n, hd⟩ := pl
    exact call_list_seq p (.inr rfl) ho hc hd (fun h' c' kp e => fin its r' hz h' c' kp e) (by simp only [List.size_toArray] <;> omega)
theorem call_tuple_of : CallR X (.type "tuple") (fun xs H Q => ∃ p ys, xs = [.ref p] ∧ ((SqL X.K H p ys ∧ ∀ l, H l = none → Q (.ref l) (upd H l (.tup ys))) ∨ (SqT X.K H p ys ∧ Q (.ref p) H))) := by
  intro pins s σ H xs us Q I r h
  obtain ⟨p, ys, rfl, h⟩ := h
  obtain ⟨u, rfl, rx⟩ := vals1 r
  cases rx
  rcases h with ⟨hq, q⟩ | ⟨hq, q⟩
  · obtain ⟨its, r', pl, hz⟩ := I.list hq
    have hlen := r'.length
    refine call_tuple_list pl.isList (fun h' kp => ?_) (by simp only [List.size_toArray] <;> omega)
    have I1 : Inv X pins σ H { s with heap := h' } := I.kept (t' := s.toks) kp
    have I2 : Inv X pins σ (upd H h'.objs.size (.tup ys)) { s with heap := h'.push { cls := .type "tuple", data := .seq its.toArray } } :=
      I1.laid (t' := s.toks) (fun b o e => Heap.get?_push_of_some _ e) (Nat.le_refl _) (show ObjOk X.prog X.w _ _ _ (.tup ys) from ⟨hz, its, r', IsTup.new _ _⟩)
    exact ⟨.ref h'.objs.size, _, I2, rfl, q _ (I1.hok.fresh (Nat.le_refl _))⟩
  · obtain ⟨its, r', pl, hz⟩ := I.tuple hq
    exact call_tuple_same pl ⟨.ref p, H, I, rfl, q⟩
noncomputable def tyV (K : PySem.W.Frag) (T : String) (x : V) (H : Hp) : Prop := match x with
  | .str _ => T = "str"
  | .int _ => T = "int"
  | .ref p => (T = "list" ∧ ∃ xs, SqL K H p xs) ∨ (T = "tuple" ∧ ∃ o, K.lookup p = some o ∧ o.cls = .type "tuple" ∧ o.dict = none) ∨
      (T = "dict" ∧ ((∃ kvs, H p = some (.dK kvs)) ∨ ∃ kvs, H p = some (.dT kvs))) ∨ (T = "set" ∧ ∃ S n, H p = some (.set S n))
  | _ => False
theorem tyV_is {pins : List (Addr × Obj)} {σ : St} {H : Hp} {s : Shared} {T : String} {x : V} {v : Value} (I : Inv X pins σ H s) (r : RelV x v) (ty : tyV X.K T x H) :
    s.TypeIs v T ∧ ∀ a, v = .ref a → ∃ ob, s.heap.get? a = some ob ∧ ob.dict = none := by
  cases x with
  | str z =>
    obtain ⟨t, rfl⟩ := r
    cases (show T = "str" from ty)
    exact ⟨typeIs_str s z t, fun _ e => nomatch e⟩
  | int i =>
    obtain ⟨t, rfl⟩ := r
    cases (show T = "int" from ty)
    exact ⟨typeIs_int s i t, fun _ e => nomatch e⟩
  | ref p =>
    cases r
    rcases ty with ⟨rfl, xs, hq⟩ | ⟨rfl, o, hk, hc, hd⟩ | ⟨rfl, hk⟩ | ⟨rfl, S, n, hk⟩
    · obtain ⟨its, _, pl, _⟩ := I.list hq
      refine ⟨pl.isList.typeIs, fun a e => ?_⟩
      cases e
      obtain ⟨o, n, e, c, hd, _⟩ := pl
      exact ⟨o, e, hd⟩
    · refine ⟨⟨o, I.kIn p o hk, hc⟩, fun a e => ?_⟩
      cases e
      exact ⟨o, I.kIn _ o hk, hd⟩
    · have z : ∃ o, s.heap.get? p = some o ∧ o.ExactDict := by
        rcases hk with ⟨kvs, hk⟩ | ⟨kvs, hk⟩
        · obtain ⟨_, _, _, _, o, _, _, e, ex, _⟩ := I.hok p _ hk
          exact ⟨o, e, ex⟩
        · obtain ⟨_, _, _, _, o, _, _, e, ex, _⟩ := I.hok p _ hk
          exact ⟨o, e, ex⟩
      obtain ⟨o, e, ex⟩ := z
      refine ⟨⟨o, e, ex.1⟩, fun a e2 => ?_⟩
      cases e2
      exact ⟨o, e, ex.2.1⟩
    · obtain ⟨o, _, _, _, e, ex, _⟩ := I.hok p _ hk
      refine ⟨⟨o, e, ex.1⟩, fun a e2 => ?_⟩
      cases e2
      exact ⟨o, e, ex.2.1⟩
  | _ => exact False.elim ty
noncomputable def tBM0 (K : PySem.W.Frag) (T : String) (r : V → List V → Hp → VK → Prop) (to : TE) : TE := fun σ H Q => to σ H fun x H1 => tyV K T x H1 ∧ r x [] H1 Q
noncomputable def tBM (K : PySem.W.Frag) (T : String) (r : V → List V → Hp → VK → Prop) (to : TE) (t : TA) : TE := fun σ H Q => to σ H fun x H1 => tyV K T x H1 ∧ t σ H1 fun xs H2 => r x xs H2 Q
variable {o e : Expr} {es : List Expr} {to : TE} {t : TA} {name : Str} {apos cpos : Pos} {T id : String} {r : V → List V → Hp → VK → Prop}
theorem pe_bm0 (pa : PlainAttrs T) (slot : Slot T name id) (hty : typeOf (.builtin id) = pure (.type "method_descriptor")) (hm : MtR X id r) (ho : PE X o to)
    (hbase : attributeBase o name X.env (eval o X.env) = eval o X.env := by rfl) (hline : (apos.endLine == cpos.line) = true := by rfl) : PE X (.Call (.Attribute o name apos) [] [] cpos) (tBM0 X.K T r to) := by
  intro pins s σ H Q I h
  refine wpAny_Call_method0_late hbase hline (thn (ho pins s σ H _ I h) fun v s1 ⟨x, H1, I1, r1, ty, q1⟩ => ?_)
  obtain ⟨h1, h2⟩ := tyV_is I1 r1 ty
  exact ⟨T, id, pa, slot, hty, h1, h2, Calls.callWith_builtin rfl (PySem.evalArgs_none (hm pins s1 σ H1 x [] v [] Q I1 r1 .nil q1))⟩
theorem pe_bm (pa : PlainAttrs T) (slot : Slot T name id) (hty : typeOf (.builtin id) = pure (.type "method_descriptor")) (hm : MtR X id r) (ho : PE X o to) (ha : PA X (e :: es) t)
    (hbase : attributeBase o name X.env (eval o X.env) = eval o X.env := by rfl)
    (hfew : ((backTo cpos (starEach (e :: es) X.env)).all (fun x => !x.1) && (backToKw cpos (keywordEach [] X.env)).all (fun x => x.1.isSome)
      && decide ((e :: es).length + ([] : List Keyword).length + (if ([] : List Keyword).isEmpty then 0 else 1) < 30)) = true := by rfl)
    (hline : (apos.endLine == cpos.line) = true := by rfl) (hs : starEach (e :: es) X.env = (false, eval e X.env) :: starEach es X.env := by rfl) (hplain : (backTo cpos (starEach es X.env)).any (·.1) = false := by rfl) :
    PE X (.Call (.Attribute o name apos) (e :: es) [] cpos) (tBM X.K T r to t) := by
  intro pins s σ H Q I h
  refine wpAny_Call_method_late hbase hfew hline rfl (thn (ho pins s σ H _ I h) fun v s1 ⟨x, H1, I1, r1, ty, q1⟩ => ?_)
  obtain ⟨h1, h2⟩ := tyV_is I1 r1 ty
  refine ⟨T, id, pa, slot, hty, h1, h2, ?_⟩
  have hA := ha cpos pins s1 σ H1 _ I1 q1
  rw [hs] at hA ⊢
  refine Calls.callWith_builtin (by show (false || (backTo cpos (starEach es X.env)).any (·.1)) = false; rw [hplain] <;> rfl) (Calls.evalArgs_plain ?_)
  exact thn hA fun us s2 ⟨vs, H2, I2, r2, q2⟩ => hm pins s2 σ H2 x vs v us Q I2 r1 r2 q2
end
end L2
namespace L2
open PySem PySem.Spec PyProof.Rows
noncomputable def MtM (X : Cx) (id : String) (r : V → List V → Hp → VK → Prop) : Prop :=
  ∀ (pins : List (Addr × Obj)) (s : Shared) (σ : St) (H : Hp) (x : V) (xs : List V) (v : Value) (us : List Value) (Q : VK), Inv X pins σ H s → RelV x v → Vals xs us → r x xs H Q →
    wpAny (model X.prog X.w) X.A (call (.builtin id) (v :: us)) (EP X pins σ Q) X.xe s
theorem Vals.one : ∀ {x : V} {us : List Value}, Vals [x] us → ∃ u, us = [u] ∧ RelV x u
  | _, _, .cons r .nil => ⟨_, rfl, r⟩
theorem Vals.two : ∀ {x y : V} {us : List Value}, Vals [x, y] us → ∃ u v, us = [u, v] ∧ RelV x u ∧ RelV y v
  | _, _, _, .cons r (.cons q .nil) => ⟨_, _, rfl, r, q⟩
theorem Vals.zero : ∀ {us : List Value}, Vals [] us → us = []
  | _, .nil => rfl
theorem Vals.dropLast {xs : List V} {us : List Value} (h : Vals xs us) : Vals xs.dropLast us.dropLast := by
  induction h with
  | nil => exact .nil
  | cons r t ih =>
    cases t with
    | nil => exact .nil
    | cons q t' => exact .cons r ih
theorem Vals.eraseIdx : ∀ {xs : List V} {us : List Value} (i : Nat), Vals xs us → Vals (xs.eraseIdx i) (us.eraseIdx i)
  | _, _, _, .nil => .nil
  | _, _, 0, .cons _ t => t
  | _, _, i + 1, .cons r t => .cons r (Vals.eraseIdx i t)
theorem erase_last {α : Type} (l : List α) : l.eraseIdx (l.length - 1) = l.dropLast := by
  induction l with
  | nil => rfl
  | cons a r ih =>
    cases r with
    | nil => rfl
    | cons b r =>
      have e : (a :: b :: r).length - 1 = ((b :: r).length - 1) + 1 := by
        have h1 : (a :: b :: r).length = r.length + 2 := rfl
        have h2 : (b :: r).length = r.length + 1 := rfl
        omega
      rw [e, List.eraseIdx_cons_succ, ih]
      all_goals rfl
theorem len_erase {α : Type} : ∀ (l : List α) (i : Nat), (l.eraseIdx i).length ≤ l.length
  | [], _ => Nat.le_refl _
  | _ :: _, 0 => Nat.le_succ _
  | _ :: r, i + 1 => Nat.succ_le_succ (len_erase r i)
section
variable {X : Cx} {pins : List (Addr × Obj)} {σ : St} {H : Hp} {s : Shared} {l b : Addr} {xs ys zs : List V}
theorem Inv.lset {its its' : List Value} {n : Nat} {f : Array Value → Array Value} {t' : Nat} (I : Inv X pins σ H s) (hH : H l = some (.lst xs))
    (e : s.heap.get? l = some { cls := .type "list", data := .seq its.toArray n }) (hf : f its.toArray = its'.toArray) (hv : Vals ys its') (hz : ys.length ≤ sizeLine) :
    Inv X pins σ (upd H l (.lst ys)) { s with heap := s.heap.update l (Obj.mapSeq f), toks := t' } := by
  have q := PySem.IsL.update e f
  rw [hf] at q
  refine I.write (x := l) (e := l) (by rw [hH]; exact trivial) (.inl rfl) (fun b' u hb hu => (Heap.get?_update_other s.heap (Obj.mapSeq f) (Ne.symm hb)).trans hu) ⟨_, q⟩ ?_
  exact ⟨hz, its', _, hv, q⟩
theorem Inv.lnew {its : List Value} {t' : Nat} (I : Inv X pins σ H s) (hv : Vals ys its) (hz : ys.length ≤ sizeLine) :
    Inv X pins σ (upd H s.heap.objs.size (.lst ys)) { s with heap := s.heap.push { cls := .type "list", data := .seq its.toArray }, toks := t' } :=
  I.laid (fun _ _ q => Heap.get?_push_of_some _ q) (Nat.le_refl _) ⟨hz, its, 0, hv, Heap.get?_push_size _ rfl⟩
theorem Inv.fresh (I : Inv X pins σ H s) : H s.heap.objs.size = none := I.hok.fresh (Nat.le_refl _)
theorem Inv.lstM (I : Inv X pins σ H s) (hH : H l = some (.lst xs)) : xs.length ≤ sizeLine ∧ ∃ (its : List Value) (n : Nat), Vals xs its ∧ xs.length = its.length ∧ s.heap.get? l = some { cls := .type "list", data := .seq its.toArray n } := by
  obtain ⟨z, its, n, r, e⟩ := I.hok l _ hH
  exact ⟨z, its, n, r, r.length, e⟩
theorem notLongL {n : Nat} (h : n ≤ sizeLine) : Builtin.List.listTooLong n = false := by
  unfold Builtin.List.listTooLong
  exact decide_eq_false (by omega)
end
section
variable {X : Cx}
noncomputable def rAppend : V → List V → Hp → VK → Prop := fun x vs H Q => ∃ l xs y, x = .ref l ∧ vs = [y] ∧ H l = some (.lst xs) ∧ xs.length < sizeLine ∧ Q .non (upd H l (.lst (xs ++ [y])))
theorem mt_append : MtM X "list.append" rAppend := by
  intro pins s σ H x vs v us Q I rx rv h
  obtain ⟨l, xs, y, rfl, rfl, hH, hz, q⟩ := h
  cases rx
  obtain ⟨u, rfl, ru⟩ := rv.one
  obtain ⟨z, its, n, r, hl, e⟩ := I.lstM hH
  refine call_meets F.slot_list_append ⟨_, e, rfl⟩ F.entry_list_append (F.args_list_append_2 _ _) (PySem.list_append l its.toArray n u (by rw [List.size_toArray]; omega)) ⟨e, ?_⟩
  refine ⟨.non, _, I.lset (its' := its ++ [u]) hH e (by simp) (r.append (.cons ru .nil)) ?_, rfl, q⟩
  rw [List.length_append, List.length_singleton]
  omega
noncomputable def rExtend : V → List V → Hp → VK → Prop := fun x vs H Q => ∃ l b xs zs, x = .ref l ∧ vs = [.ref b] ∧ H l = some (.lst xs) ∧ H b = some (.lst zs) ∧ xs.length + zs.length ≤ sizeLine ∧ Q .non (upd H l (.lst (xs ++ zs)))
theorem mt_extend : MtM X "list.extend" rExtend := by
  intro pins s σ H x vs v us Q I rx rv h
  obtain ⟨l, b, xs, zs, rfl, rfl, hH, hB, hz, q⟩ := h
  cases rx
  obtain ⟨u, rfl, ru⟩ := rv.one
  cases ru
  obtain ⟨z, its, n, r, hl, e⟩ := I.lstM hH
  obtain ⟨z2, its2, n2, r2, hl2, e2⟩ := I.lstM hB
  have hsz : its.toArray.size + its2.toArray.size ≤ sizeLine := by rw [List.size_toArray, List.size_toArray]; omega
  have hlong : ¬ (!its.toArray.isEmpty && Builtin.List.listTooLong (its.toArray.size + its2.toArray.size)) = true := by
    rw [notLongL hsz, Bool.and_false]
    exact Bool.false_ne_true
  refine call_meets F.slot_list_extend ⟨_, e, rfl⟩ F.entry_list_extend (F.args_list_extend_2 _ _)
    (AutoSeq1.list_extend_list_list_0 l its.toArray n b its2.toArray n2 hlong (by rw [List.size_toArray]; omega) (by omega)) ⟨e, e2, ?_⟩
  refine ⟨.non, _, I.lset (its' := its ++ its2) hH e (by simp) (r.append r2) ?_, rfl, q⟩
  rw [List.length_append]
  omega
noncomputable def rPop : V → List V → Hp → VK → Prop := fun x vs H Q => ∃ l xs y, x = .ref l ∧ vs = [] ∧ H l = some (.lst xs) ∧ xs[xs.length - 1]? = some y ∧ Q y (upd H l (.lst xs.dropLast))
theorem mt_pop : MtM X "list.pop" rPop := by
  intro pins s σ H x vs v us Q I rx rv h
  obtain ⟨l, xs, y, rfl, rfl, hH, hy, q⟩ := h
  cases rx
  have hus := rv.zero
  subst hus
  obtain ⟨z, its, n, r, hl, e⟩ := I.lstM hH
  obtain ⟨u, hu, ru⟩ := r.get hy
  have hy' : its.toArray[its.toArray.size - 1]? = some u := by
    show its.toArray[its.length - 1]? = some u
    rw [← Array.getElem?_toList, ← hl]
    exact hu
  refine call_meets F.slot_list_pop ⟨_, e, rfl⟩ F.entry_list_pop (F.args_list_pop_1 _) (MeetsSeq.list_pop_last l its.toArray n u hy' (by rw [List.size_toArray]; omega)) ⟨e, ?_⟩
  refine ⟨y, _, I.lset (its' := its.dropLast) hH e ?_ r.dropLast ?_, ru, q⟩
  · show its.toArray.eraseIdxIfInBounds (its.toArray.size - 1) = its.dropLast.toArray
    rw [List.size_toArray, List.eraseIdxIfInBounds_toArray, erase_last]
  · rw [List.length_dropLast]
    omega
noncomputable def rPopAt : V → List V → Hp → VK → Prop := fun x vs H Q => ∃ l xs i k y, x = .ref l ∧ vs = [.int i] ∧ H l = some (.lst xs) ∧ -(2 ^ 63) ≤ i ∧ i < 2 ^ 63 ∧ seqIndex? i xs.length = some k ∧ xs[k]? = some y ∧ Q y (upd H l (.lst (xs.eraseIdx k)))
theorem mt_popAt : MtM X "list.pop" rPopAt := by
  intro pins s σ H x vs v us Q I rx rv h
  obtain ⟨l, xs, i, k, y, rfl, rfl, hH, h1, h2, hk, hy, q⟩ := h
  cases rx
  obtain ⟨u, rfl, ru⟩ := rv.one
  obtain ⟨t, rfl⟩ := ru
  obtain ⟨z, its, n, r, hl, e⟩ := I.lstM hH
  obtain ⟨w, hw, rw'⟩ := r.get hy
  refine call_meets F.slot_list_pop ⟨_, e, rfl⟩ F.entry_list_pop (F.args_list_pop_2 _ _)
    (MeetsSeq.list_pop_at l its.toArray n i t k w (fitsIndex_both h1 h2) (by rw [List.size_toArray, ← hl]; exact hk) (by rw [← Array.getElem?_toList]; exact hw) (by rw [List.size_toArray]; omega)) ⟨e, ?_⟩
  refine ⟨y, _, I.lset (its' := its.eraseIdx k) hH e ?_ (r.eraseIdx k) ?_, rw', q⟩
  · show its.toArray.eraseIdxIfInBounds k = (its.eraseIdx k).toArray
    rw [List.eraseIdxIfInBounds_toArray]
  · have := len_erase xs k
    omega
noncomputable def rReverse : V → List V → Hp → VK → Prop := fun x vs H Q => ∃ l xs, x = .ref l ∧ vs = [] ∧ H l = some (.lst xs) ∧ Q .non (upd H l (.lst xs.reverse))
noncomputable def rClear : V → List V → Hp → VK → Prop := fun x vs H Q => ∃ l xs, x = .ref l ∧ vs = [] ∧ H l = some (.lst xs) ∧ Q .non (upd H l (.lst []))
noncomputable def rCat : R2 := fun x y H Q => ∃ l b xs zs, x = .ref l ∧ y = .ref b ∧ H l = some (.lst xs) ∧ H b = some (.lst zs) ∧ xs.length + zs.length ≤ sizeLine ∧ ∀ p, H p = none → Q (.ref p) (upd H p (.lst (xs ++ zs)))
theorem op_cat : OpR X (binaryOp .Add) rCat := by
  intro pins s σ H x y v u Q I rx ry h
  obtain ⟨l, b, xs, zs, rfl, rfl, hH, hB, hz, q⟩ := h
  cases rx
  cases ry
  obtain ⟨z, its, n, r, hl, e⟩ := I.lstM hH
  obtain ⟨z2, its2, n2, r2, hl2, e2⟩ := I.lstM hB
  refine PySem.P.add_list e e2 ?_ (by rw [List.size_toArray, List.size_toArray]; omega)
  have ea : its.toArray ++ its2.toArray = (its ++ its2).toArray := by simp
  rw [ea]
  exact ⟨.ref _, _, I.lnew (t' := s.toks) (r.append r2) (by rw [List.length_append]; omega), rfl, q _ I.fresh⟩
noncomputable def rRep : R2 := fun x y H Q => ∃ l k xs, x = .ref l ∧ y = .int k ∧ H l = some (.lst xs) ∧ -(2 ^ 63) ≤ k ∧ k < 2 ^ 63 ∧ xs.length * k.toNat ≤ sizeLine ∧
  ∀ p, H p = none → Q (.ref p) (upd H p (.lst (List.replicate k.toNat xs).flatten))
end
section
variable {prog : Program} {w : World} {A : Around} {E : Value → Shared → Prop} {s : Shared}
end
section
variable {X : Cx}
end
end L2
namespace Att
open PySem PySem.W PySem.Calls PyProof.Rows
theorem ints_of_wellAll {P : Params} {h : Heap} : ∀ (ns : List Int) (vs : List Value), WellAll P h vs (ns.map WData.int) → IntsAre vs ns := by
  intro ns
  induction ns with
  | nil =>
    intro vs w
    rw [List.map_nil] at w
    cases w
    exact .nil
  | cons n ns ih =>
    intro vs w
    rw [List.map_cons] at w
    cases w with
    | cons a b =>
      cases a
      exact .cons _ _ (ih _ b)
theorem script_of {l : OpenLaw} {n : Nat} (hn : l.most = some n) {P : Params} {h : Heap} {args : List WData} {vals : List Value}
    (hpre : l.row.toRowW.claim.pre args = true) (hwl : WellAll P h vals args) :
    ∃ a vs ns, vals = [Value.ref a] ∧ args = [WData.list (ns.map WData.int)] ∧ h.get? a = some { cls := .type "list", data := .seq vs.toArray } ∧ IntsAre vs ns ∧ ns.length ≤ n := by
  have hsh : WShape.hasAll [] args [.list .int] = true := (pre_splitW hpre).1
  have hc : l.pre.holds [] { args := args } = true := (pre_splitW hpre).2
  obtain ⟨d, r, rfl, h1, h2⟩ := hasAllW_cons hsh
  obtain rfl := hasAllW_nil h2
  obtain ⟨xs, rfl, h3⟩ := hasW_list h1
  obtain ⟨ns, rfl⟩ := items_int h3
  have hlen : ns.length ≤ n := by
    unfold OpenLaw.pre at hc
    have h4 : (WTm.not (.lt (.lit (.int (n : Int))) (.len (.arg 0)))).holds [] { args := [.list (ns.map .int)] } = true := by
      have h4 := (holds_andW hc).1
      rw [hn] at h4
      exact h4
    have h5 := condW_of h4 (w_not (w_lt w_lit (w_len_list (w_arg rfl))))
    rw [List.length_map] at h5
    refine Nat.le_of_not_lt fun q => ?_
    have q' : (n : Int) < ((ns.length : Nat) : Int) := by omega
    first
      | (rw [decide_eq_true q'] at h5; exact absurd h5 (by decide))
      | (simp at h5; omega)
  cases hwl with
  | cons w1 w2 =>
    cases w2
    cases w1 with
    | list ho hall => exact ⟨_, _, ns, rfl, rfl, ho, ints_of_wellAll ns _ hall, hlen⟩
theorem post_true (l : OpenLaw) (args : List WData) : l.row.toRowW.claim.post args (.bool true) args = true :=
  postW_of (r := l.row.toRowW) (X := (true == true))
    (show WShape.has [] (.bool true) .bool = true by first | rfl | decide | simp [WShape.has, WShape.arms, WShape.armsAll])
    (show (WTm.eq .res (.lit (.bool true))).value [] { args := args, res := some (.bool true), after := args } = some (.bool (true == true)) from w_eq_bool (w_res rfl) w_lit) rfl
theorem attach_call {l : OpenLaw} {n : Nat} {q : Program} {loose : List Str} {XP : (Str → Option Value) → Heap → Prop} {YP : World → Heap → Prop} {d : DefRec}
    (hn : l.most = some n) (hdf : d.params.defaults = [])
    (call : ∀ (w : World) (s₀ s₁ : Shared) (mg mb : Str → Option Value) (fa : Addr) (o : Obj) (pm cd doc : Value) (a : Addr) (vs : List Value) (ns : List Int),
      Ground q loose [] XP w s₀ mg mb s₁.heap → YP w s₁.heap →
      s₁.heap.get? fa = some o → o.data = .func (docDef d.name d.params d.body d.scope pm cd doc) → s₁.heap.CodeRec cd d.name → mg d.name = some (.ref fa) →
      s₁.heap.get? a = some { cls := .type "list", data := .seq vs.toArray } → IntsAre vs ns → ns.length ≤ n → s₁.gens = #[] →
      codeAny (model l.prog w) callerA (.call (.ref fa) ⟨[.ref a], []⟩) (fun r s' => r = .ok (.ret (.bool true)) ∧ OldK s₁.heap s'.heap ∧ s'.os = s₁.os ∧ AllBare s'.gens) s₁) :
    WalkO q loose XP YP l.row.toRowW d [] (fun f vs => PySem.call f vs) := by
  intro w s₀ s₁ mg mb G Y fa o pm cd doc dV kV ho hd hcd hD hmg hg args vals as hpre hlay hrd hwl hlo
  obtain rfl : dV = .none := Dflts.none hD hdf
  obtain rfl : kV = .none := Dflts.noKw hD
  obtain ⟨a, vs, ns, rfl, rfl, hobj, hints, hlen⟩ := script_of hn hpre hwl
  refine enter_call (codeAny_mono (call w s₀ s₁ mg mb fa o pm cd doc a vs ns G Y ho (fd_plain hd) hcd hmg hobj hints hlen hg) fun r s' hq => ?_)
  obtain ⟨rfl, h2, h3, h4⟩ := hq
  exact ⟨.inl ⟨.bool true, .bool true, [], rfl, fun _ => rfl, .bool true, post_true l _, fun _ => ⟨List.Pairwise.nil, fun _ hm => (nomatch hm)⟩⟩, h2, h3, h4⟩
section
variable {prog : Program} {w : World} {A : Around} {E : Value → Shared → Prop} {s : Shared} {K : Frag}
noncomputable def noObjs (h : Heap) : Heap := { h with objs := #[] }
noncomputable def ledger (h : Heap) (L d : Addr) : List (Addr × Obj) := (List.range h.objs.size).filterMap fun a => if a = L ∨ a = d then none else (h.get? a).map fun o => (a, o)
end
end Att
namespace L2
open PySem PySem.Spec PyProof.Rows
theorem vals_ints : ∀ {vs : List Value} {ns : List Int}, IntsAre vs ns → Vals (ns.map V.int) vs
  | _, _, .nil => .nil
  | _, _, .cons n t h => .cons ⟨t, rfl⟩ (vals_ints h)
noncomputable def Only (H : Hp) : Prop := ∀ b, H b = none ∨ ∃ o xs, H b = some (.frz o (.lst xs))
end L2
namespace L2
open PySem PySem.Spec PyProof.Rows
noncomputable abbrev KOf {K : PySem.W.Frag} {h : Heap} (_ : K.In h) : PySem.W.Frag := K
end L2
namespace L2
open PySem PySem.Spec PyProof.Rows
noncomputable def inClass (s : Stmt) (j : Nat) : Stmt := match s with
  | .ClassDef _ _ _ body _ _ _ _ _ _ _ => body.getD j (.Pass ⟨0, 0, 0, 0⟩)
  | _ => .Pass ⟨0, 0, 0, 0⟩
noncomputable def defArgs (s : Stmt) : Arguments := match s with
  | .FunctionDef _ a _ _ _ _ _ _ _ _ => a
  | _ => { posonlyargs := [], args := [], vararg := none, kwonlyargs := [], kw_defaults := [], kwarg := none, defaults := [] }
noncomputable def defBody (s : Stmt) : List Stmt := match s with
  | .FunctionDef _ _ b _ _ _ _ _ _ _ => b
  | _ => []
noncomputable def defScope (s : Stmt) : Scope := match s with
  | .FunctionDef _ _ _ _ _ _ sc _ _ _ => sc
  | _ => { kind := .function, names := [], isGenerator := false, isCoroutine := false }
noncomputable abbrev CX0 : CXT := fun _ _ _ _ _ _ => False
noncomputable abbrev E0 : XK := fun _ _ _ => False
theorem pass0 {X : Cx} : Passes CX0 X E0 := fun _ _ _ _ _ _ _ h => h.elim
structure Fun (K : PySem.W.Frag) (x qual : Str) (st : Stmt) (f : Addr) (fd : FuncData) : Prop where
  ex : ∃ (oc : Value) (od : Option Addr) (kV doc pm : Value) (an : Option Addr) (cdv ct : Value) (osl : Array (Option Value)),
    fd = PySem.W.fnOf x qual (defArgs st) (defBody st) (defScope st) .none kV doc pm an cdv ct ∧ K.lookup f = some ⟨oc, od, .func fd, osl⟩ ∧ PySem.W.codeIn K cdv qual = true
  kp : PySem.W.keepIn K (.ref f) = true
section
variable {P : Program} {w : World} {K : PySem.W.Frag} {mg : Str → Option Value} {base : Heap}
theorem Fun.ok {x qual : Str} {st : Stmt} {f : Addr} {fd : FuncData} {N ps : List Str} {k : Nat} {sp : Sp} (F : Fun K x qual st f fd) (S : FnScope N ps (defScope st)) (len : ∀ vs H Q E, sp vs H Q E → vs.length = ps.length)
    (hbody : ∀ (cdv : Value) (A : Around) (outer : List Env) (s : Shared) (H : Hp) (vs : List V) (Q : VK) (E : XK), Room k (A.deeper (envOfC qual (defScope st) s.heap.objs.size f cdv)) → sp vs H Q E →
      ∃ t, PSs (cxOf CX0 P w K mg base N qual (defScope st) f cdv A outer s H E).nox (defBody st) t ∧ t { nx := fun _ H' => Q .non H', rt := Q } (start N vs) H) : FnOk P w K mg base CX0 (k + 1) f fd ps sp := by
  obtain ⟨oc, od, kV, doc, pm, an, cdv, ct, osl, rfl, lk, hcd⟩ := F.ex
  refine fn_of lk hcd S len fun A outer s H vs Q E hr hsp => ?_
  obtain ⟨t, h, q⟩ := hbody cdv A outer s H vs Q E hr hsp
  exact ⟨t, h.nox, q⟩
theorem Fun.binds {x qual : Str} {st : Stmt} {f : Addr} {fd : FuncData} {ps : List Str} (F : Fun K x qual st f fd)
    (h : ∀ (kV doc pm : Value) (an : Option Addr) (cdv ct : Value) (us : List Value), us.length = ps.length → bindArgs (PySem.W.fnOf x qual (defArgs st) (defBody st) (defScope st) .none kV doc pm an cdv ct) ⟨us, []⟩ = pure (ps.zip us)) : Binds K fd ps [] := by
  obtain ⟨oc, od, kV, doc, pm, an, cdv, ct, osl, rfl, lk, hcd⟩ := F.ex
  exact .all (h kV doc pm an cdv ct)
theorem fun_mk {x qual : Str} {st : Stmt} {f : Addr} {oc : Value} {od an : Option Addr} {osl : Array (Option Value)} {kV doc pm cdv ct : Value} (l : K.lookup f = some ⟨oc, od, .func (PySem.W.fnOf x qual (defArgs st) (defBody st) (defScope st) .none kV doc pm an cdv ct), osl⟩)
    (c : PySem.W.codeIn K cdv qual = true) (k : PySem.W.keepIn K (.ref f) = true) : Fun K x qual st f (PySem.W.fnOf x qual (defArgs st) (defBody st) (defScope st) .none kV doc pm an cdv ct) := ⟨⟨oc, od, kV, doc, pm, an, cdv, ct, osl, rfl, l, c⟩, k⟩
end
theorem hu_of {A : Around} {k : Nat} (hr : Room k A) : A.units + 1 < cLine := Nat.lt_of_le_of_lt (Nat.add_le_add_left (by decide : 1 ≤ 64) _) hr.units
theorem small1000 {n : Nat} (h : n ≤ 1000) : n < sizeLine := Nat.lt_of_le_of_lt h (by decide)
section
variable {X : Cx}
theorem pv (i : Nat) {x : Str} {pos : Pos} (hN : X.N[i]? = some x := by rfl) (hv : Vis X.env.scope x := by first | exact Or.inl rfl | exact Or.inr (Or.inl rfl) | exact Or.inr (Or.inr rfl)) (hd : (x == ("__debug__" : Str)) = false := by decide)
    (hcd : (x == ("__classdict__" : Str)) = false := by decide) : PE X (.Name x pos) (tVar i) := pe_var hN hv hd hcd
end
noncomputable def Same (H H' : Hp) : Prop := ∀ b o, H b = some o → H' b = some o
end L2
set_option Elab.async false
set_option linter.all false
set_option maxRecDepth 100000
set_option maxHeartbeats 4000000
namespace ST
open PySem PySem.Spec PyProof.Rows L2
section
variable {X : Cx} {e : Expr} {t t' : TE}
theorem peImp (h : PE X e t) (w : ∀ σ H Q, t' σ H Q → t σ H Q) : PE X e t' := fun pins s σ H Q I q => h pins s σ H Q I (w σ H Q q)
theorem paImp {es : List Expr} {u u' : TA} (h : PA X es u) (w : ∀ σ H Q, u' σ H Q → u σ H Q) : PA X es u' := fun pos pins s σ H Q I q => h pos pins s σ H Q I (w σ H Q q)
noncomputable def rInst (K : PySem.W.Frag) : List V → Hp → VK → Prop := fun xs H Q => ∃ x c ty b, xs = [x, V.ty c] ∧ TyOf K H x ty ∧ PySem.W.kitOne K ty (.type c) = some b ∧ Q (.bl b) H
theorem call_inst : CallR X (.builtin "isinstance") (rInst X.K) := by
  intro pins s σ H xs us Q I r h
  obtain ⟨x, c, ty, b, rfl, hty, he, q⟩ := h
  obtain ⟨u, z, rfl, ru, rz⟩ := vals2 r
  cases (show z = Value.type c from rz)
  exact isinst_ok I ru hty he fun tk => ⟨.bl b, H, I.tok tk, rfl, q⟩
theorem kit_same (K : PySem.W.Frag) (T : String) : PySem.W.kitOne K (.type T) (.type T) = some true := by
  unfold PySem.W.kitOne
  rw [if_pos (beq_self_eq_true _)]
theorem kit_str_int (K : PySem.W.Frag) : PySem.W.kitOne K (.type "str") (.type "int") = some false := by kernel_rfl
theorem kit_tup_int (K : PySem.W.Frag) : PySem.W.kitOne K (.type "tuple") (.type "int") = some false := by kernel_rfl
theorem kit_tup_str (K : PySem.W.Frag) : PySem.W.kitOne K (.type "tuple") (.type "str") = some false := by kernel_rfl
theorem kit_int_str (K : PySem.W.Frag) : PySem.W.kitOne K (.type "int") (.type "str") = some false := by kernel_rfl
theorem kit_int_tup (K : PySem.W.Frag) : PySem.W.kitOne K (.type "int") (.type "tuple") = some false := by kernel_rfl
theorem kit_str_tup (K : PySem.W.Frag) : PySem.W.kitOne K (.type "str") (.type "tuple") = some false := by kernel_rfl
noncomputable def rEqV (K : PySem.W.Frag) : R2 := fun x y H Q => (scal x y = true ∧ Q (.bl (decide (x = y))) H) ∨ (∃ p xs, x = .ref p ∧ SqT K H p xs ∧ ((∃ i, y = .int i) ∨ ∃ z, y = .str z) ∧ Q (.bl false) H)
noncomputable def rEqNil (K : PySem.W.Frag) (neg : Bool) : R2 := fun x y H Q => ∃ a b xs, x = .ref a ∧ y = .ref b ∧ SqL K H a xs ∧ SqL K H b [] ∧ Q (.bl (xor neg xs.isEmpty)) H
theorem op_eqNil (hu : X.A.units < cLine) : OpR X (compareOp .Eq) (rEqNil X.K false) := by
  intro pins s σ H x y v u Q I rx ry h
  obtain ⟨a, b, xs, rfl, rfl, ha, hb, q⟩ := h
  cases (show v = Value.ref a from rx)
  cases (show u = Value.ref b from ry)
  obtain ⟨its, r, pl, _⟩ := I.list ha
  obtain ⟨its2, r2, pl2, _⟩ := I.list hb
  cases r2
  cases r with
  | nil => exact SeqAt.RcAt.lists (e := fun _ => true) pl.isList pl2.isList rfl hu (fun j h1 _ => absurd h1 (Nat.not_lt_zero j)) X.prog X.w X.xe _ ⟨.bl true, H, I, rfl, q⟩
  | cons r1 rr => exact SeqAt.RcAt.lists_lengths pl.isList pl2.isList (by simp) hu X.prog X.w X.xe _ ⟨.bl false, H, I, rfl, q⟩
theorem op_neNil (hu : X.A.units < cLine) : OpR X (compareOp .NotEq) (rEqNil X.K true) := by
  intro pins s σ H x y v u Q I rx ry h
  obtain ⟨a, b, xs, rfl, rfl, ha, hb, q⟩ := h
  cases (show v = Value.ref a from rx)
  cases (show u = Value.ref b from ry)
  obtain ⟨its, r, pl, _⟩ := I.list ha
  obtain ⟨its2, r2, pl2, _⟩ := I.list hb
  cases r2
  cases r with
  | nil => exact SeqAt.RcNeAt.lists (e := fun _ => true) pl.isList pl2.isList rfl hu (fun j h1 _ => absurd h1 (Nat.not_lt_zero j)) X.prog X.w X.xe _ ⟨.bl false, H, I, rfl, q⟩
  | cons r1 rr => exact SeqAt.RcNeAt.lists_lengths pl.isList pl2.isList (by simp) hu X.prog X.w X.xe _ ⟨.bl true, H, I, rfl, q⟩
noncomputable def rEqTT (K : PySem.W.Frag) : R2 := fun x y H Q => ∃ (a b : Addr) (xs ys : List Str), x = .ref a ∧ y = .ref b ∧ SqT K H a (xs.map V.str) ∧ SqT K H b (ys.map V.str) ∧ ∀ k, Q (.bl k) H
theorem call_sumI (hc : X.calm = true) : CallR X (.builtin "sum") (fun xs H Q => ∃ (p : Addr) (ns : List Int), xs = [.ref p] ∧ SqL X.K H p (ns.map V.int) ∧ ∀ n, Q (.int n) H) := by
  intro pins s σ H xs us Q I r h
  obtain ⟨p, ns, rfl, hq, q⟩ := h
  obtain ⟨u, rfl, ru⟩ := vals1 r
  cases (show u = Value.ref p from ru)
  obtain ⟨its, rv, pl, _⟩ := I.list hq
  obtain ⟨zs, ez⟩ := (intsAre_of rv).allInts.items
  exact sum_intListG (xs := zs) (I.ok.hd hc) (by rw [← ez]; exact pl.isList) fun h' tk t' kp => ⟨.int _, H, I.kept kp, ⟨t', rfl⟩, q _⟩
end
end ST
set_option Elab.async false
set_option linter.all false
set_option maxRecDepth 100000
set_option maxHeartbeats 4000000
namespace ST
open PySem PySem.Spec PyProof.Rows L2
noncomputable def rl (env : Env) (n : Str) (k : NameKind) : NameKind := if (k == NameKind.free && env.scope.kind == .function && env.kindOf n == some .cell) then .cell else k
theorem relabel_names (scope : Scope) (env : Env) : (relabel scope env).names = scope.names.map fun p => (p.1, rl env p.1 p.2) := by
  unfold relabel
  refine List.map_congr_left fun p _ => ?_
  obtain ⟨n, k⟩ := p
  unfold rl
  dsimp only
  split <;> rfl
theorem look_map (f : Str → NameKind → NameKind) (y : Str) : ∀ l : List (Str × NameKind), (l.map fun p => (p.1, f p.1 p.2)).lookup y = (l.lookup y).map (f y)
  | [] => rfl
  | (n, k) :: r => by
    rw [List.map_cons, List.lookup_cons, List.lookup_cons, look_map f y r]
    cases h : y == n with
    | true =>
      have e : y = n := by simpa using h
      subst e
      rfl
    | false => rfl
theorem look_relabel (scope : Scope) (env : Env) (y : Str) : (relabel scope env).names.lookup y = (scope.names.lookup y).map (rl env y) := by
  rw [relabel_names, look_map (rl env)]
structure Clo (X : Cx) (scope : Scope) (x : Str) (cl : List (Str × Addr)) : Prop where
  clos : closureFor scope X.env = pure cl
  sub : ∀ y c, cl.lookup y = some c → X.env.cells.lookup y = some c
  free : ∀ y, scope.names.lookup y = some .free → ∃ c, cl.lookup y = some c
  out : ∀ y, scope.names.lookup y = some .free → X.env.kindOf y = some .cell
  cell : ∀ y ∈ scope.names, y.2 ≠ .cell
  kind : scope.kind = .function
  names : ∀ y ∈ scope.names, y.2 = .local → scope.names.lookup y.1 = some .local
  loc : scope.names.lookup x = some .local
  noN : ∀ y ∈ X.N, scope.names.lookup y ≠ some .local
  nd : X.N.Nodup
  okind : X.env.scope.kind = .function
noncomputable def cxC (X : Cx) (scope : Scope) (cl : List (Str × Addr)) (x : Str) (C : Addr) (s₀ : Shared) (H₀ : Hp) (ex : List Addr) : Cx :=
  { X with N := x :: X.N, s₀ := s₀, H₀ := H₀, env := compEnvC scope cl C X.env, outer := X.stack, ex := ex, fn := fun _ => false, pn := [], xe := fun _ _ => False }
noncomputable abbrev lstO (its : List Value) (k : Nat) : Obj := { cls := .type "list", data := .seq its.toArray k }
section
variable {X : Cx} {pins : List (Addr × Obj)} {σ : L2.St} {H2 : Hp} {s2 : Shared} {scope : Scope} {x : Str} {cl : List (Str × Addr)} {C D : Addr} {fp : List Addr}
theorem Clo.vis (CL : Clo X scope x cl) {y : Str} (h : Vis (relabel scope X.env) y) :
    (scope.names.lookup y = some .local ∧ (relabel scope X.env).names.lookup y = some .local) ∨ (scope.names.lookup y = some .free ∧ (relabel scope X.env).names.lookup y = some .cell) := by
  unfold Vis at h
  rw [look_relabel] at h ⊢
  cases e : scope.names.lookup y with
  | none => rw [e] at h; simp at h
  | some k =>
    rw [e] at h
    cases k with
    | «local» => exact .inl ⟨rfl, rfl⟩
    | free => exact .inr ⟨rfl, by simp [rl, CL.okind, CL.out y e]⟩
    | cell => exact absurd rfl (CL.cell (y, .cell) (PySem.mem_of_lookup e))
    | _ => simp [rl] at h
theorem okC (I2 : Inv X pins σ H2 s2) (CL : Clo X scope x cl) (f2 : ∀ b ∈ fp, FpOk X pins H2 b) (hC : s2.heap.objs.size ≤ C) (hfp : ∀ b ∈ fp, b < s2.heap.objs.size) : (cxC X scope cl x C s2 H2 fp).Ok where
  mod := I2.ok.mod
  kind := CL.kind
  glob := I2.ok.glob
  blt := I2.ok.blt
  above := hC
  inj := fun y z c h1 h2 => I2.ok.inj y z c (CL.sub y c h1) (CL.sub z c h2)
  has := fun y hy => by
    rcases CL.vis (y := y) (.inr hy) with ⟨_, q⟩ | ⟨q, _⟩
    · rcases hy with hy | hy
      · exact absurd (q.symm.trans hy) (by decide)
      · exact absurd (q.symm.trans hy) (by decide)
    · exact CL.free y q
  cab := fun y c hf _ => absurd (show false = true from hf) Bool.false_ne_true
  hd := I2.ok.hd
  frames := I2.ok.frames
  stk := .inl rfl
  exf := fun b hb => ⟨Nat.ne_of_lt (Nat.lt_of_lt_of_le (hfp b hb) hC), fun y c hc => (f2 b hb).2.2.2.2.1 y c (CL.sub y c hc)⟩
  bs := I2.bs
  bsz := Nat.le_trans I2.ok.bsz I2.sz
  noex := fun b o e hb => by
    rcases (f2 b hb).2.2.2.1 with z | z
    · exact I2.ok.noex b o e z
    · exact absurd (Nat.lt_of_lt_of_le (Heap.lt_size e) (Nat.le_trans I2.ok.bsz z)) (Nat.lt_irrefl _)
  exfs := fun b hb z => (List.mem_cons.mp (I2.stkSub b z)).elim (f2 b hb).2.1 (f2 b hb).2.2.1
  funs := I2.stack
  frf := I2.stkFree
theorem freshStack (I2 : Inv X pins σ H2 s2) (hD : s2.heap.objs.size ≤ D) : D ∉ frs X.stack := fun z => by
  rcases List.mem_cons.mp (I2.stkSub D z) with e | e
  · exact absurd (Nat.lt_of_lt_of_le I2.lt hD) (by rw [e]; exact Nat.lt_irrefl _)
  · exact I2.nofs hD e
theorem invC {h1 : Heap} {m1 : Str → Option Value} {tk : Nat} (I2 : Inv X pins σ H2 s2) (CL : Clo X scope x cl) (f2 : ∀ b ∈ fp, FpOk X pins H2 b) (hC : s2.heap.objs.size ≤ C) (hfp : ∀ b ∈ fp, b < s2.heap.objs.size)
    (old : ∀ b o, s2.heap.get? b = some o → h1.get? b = some o) (hns : h1.Ns C m1) (hD : s2.heap.objs.size ≤ D) (hDC : D ≠ C) (hacc : h1.get? D = some (lstO [] 0)) :
    Inv (cxC X scope cl x C s2 H2 fp) [(D, lstO [] 0)] (none :: σ) H2 { s2 with heap := h1, toks := tk } := by
  refine ⟨okC I2 CL f2 hC hfp, rfl, I2.bare, Un.kept old, ⟨m1, hns, fun i y v q1 q2 q3 => ?_⟩, fun y c hc => ?_, I2.hok.fresh hC, fun y c hc => I2.freeC y c (CL.sub y c hc), fun p hp => ?_, I2.hok.kept old, ?_⟩
  · cases i with
    | zero => simp at q2
    | succ j =>
      have q1' : X.N[j]? = some y := by simpa [cxC] using q1
      have q2' : σ[j]? = some (some v) := by simpa using q2
      rcases CL.vis (y := y) q3 with ⟨z, _⟩ | ⟨z, k⟩
      · exact absurd z (CL.noN y (List.mem_of_getElem? q1'))
      · obtain ⟨m, hn, hl⟩ := I2.loc
        obtain ⟨u, r, l⟩ := hl j y v q1' q2' (.inr (.inl (CL.out y z)))
        obtain ⟨c', hc'⟩ := CL.free y z
        refine ⟨u, r, .inr ⟨.inl k, c', hc', ?_⟩⟩
        rcases l with ⟨k2, _⟩ | ⟨_, c, hc, o, ho, hd⟩
        · exact absurd (k2.symm.trans (CL.out y z)) (by decide)
        · have e : some c' = some c := (CL.sub y c' hc').symm.trans hc
          cases e
          exact ⟨o, old _ o ho, hd⟩
  · obtain ⟨v, o, ho, hd⟩ := I2.cell y c (CL.sub y c hc)
    exact ⟨v, o, old _ o ho, hd⟩
  · have e : p = (D, lstO [] 0) := by simpa [cxC] using hp
    subst e
    exact ⟨hacc, I2.hok.fresh hD, hDC, freshStack I2 hD, fun v z => by cases z⟩
  · show (none :: σ).length = (x :: X.N).length
    rw [List.length_cons, List.length_cons, I2.len]
theorem endC {h' : Heap} {its : List Value} {k : Nat} {ys : List V} {σ' : L2.St} {H' : Hp} {s4 : Shared} (I2 : Inv X pins σ H2 s2) (f2 : ∀ b ∈ fp, FpOk X pins H2 b) (hC : s2.heap.objs.size ≤ C) (hD : s2.heap.objs.size ≤ D) (hDC : D ≠ C)
    (I4 : Inv (cxC X scope cl x C s2 H2 fp) [(D, lstO its k)] σ' H' s4) (sb : Heap.SameBut C s4.heap h') (rv : Vals ys its) (hz : ys.length ≤ sizeLine) :
    Inv X pins σ (upd H' D (.lst ys)) { s4 with heap := h' } := by
  obtain ⟨e, n, _, _, _⟩ := I4.pin (D, lstO its k) (by simp [cxC])
  have bs : Un (frs X.stack) fp H2 H' s2.heap s4.heap := I4.base
  have hHC : H' C = none := I4.free
  have lo : ∀ {b : Addr} {o : Obj}, s2.heap.get? b = some o → b ≠ C ∧ b ≠ D := fun {b o} q =>
    ⟨Nat.ne_of_lt (Nat.lt_of_lt_of_le (Heap.lt_size q) hC), Nat.ne_of_lt (Nat.lt_of_lt_of_le (Heap.lt_size q) hD)⟩
  have upd_of : ∀ {b : Addr} {u : HO}, H' b = some u → upd H' D (.lst ys) b = some u := fun {b u} q => by rw [upd_ne (ne_of_none q n)]; exact q
  refine I2.call' (ch := fp) I4.os ⟨fun b o q z hb hx => ?_, fun b o q z hb hx => ?_, fun b o q z hx => ?_, fun b o q hx => ?_, fun b xs q => upd_of (bs.tups b xs q), fun b o u q => upd_of (bs.frzs b o u q), fun b ps q => ?_⟩ (fun b u q => ?_) I4.bare
    (fun b hb => ⟨(f2 b hb).2.2.2.1, (f2 b hb).2.1, (f2 b hb).2.2.2.2.1, (f2 b hb).2.2.2.2.2⟩)
  · exact (sb.2 b (lo q).1).trans (bs.keep b o q z hb hx)
  · obtain ⟨sl, q'⟩ := bs.slot b o q z hb hx
    exact ⟨sl, (sb.2 b (lo q).1).trans q'⟩
  · rw [upd_ne (lo q).2]
    exact bs.free b o q z hx
  · obtain ⟨o', q'⟩ := bs.there b o q hx
    exact ⟨o', (sb.2 b (lo q).1).trans q'⟩
  · obtain ⟨more, q'⟩ := bs.tbls b ps q
    exact ⟨more, upd_of q'⟩
  · by_cases hb : b = D
    · subst hb
      rw [upd_same] at q
      cases q
      exact ⟨hz, its, k, rv, (sb.2 b hDC).trans e⟩
    · rw [upd_ne hb] at q
      refine (I4.hok b u q).stay (fun c v hc w => (sb.2 c ?_).trans w) (fun c w => upd_of w) fun c xs w => upd_of w
      rcases hc with z | z
      · rw [z]; exact ne_of_none q hHC
      · exact ne_of_none z hHC
end
section
variable {prog : Program} {w : World} {A : Around} {elt target iter : Expr} {scope : Scope} {pos : Pos} {it acc : Value} {env : Env} {R : Result → Shared → Prop} {s : Shared}
noncomputable abbrev nope : Value → Shared → Prop := fun _ _ => False
theorem loopC {ifs : List Expr} (J : Nat → Shared → Prop)
    (turn : ∀ n s, J n s → wpAny (model prog w) A (pyNext it) (fun r s1 => match r with
      | none => R (.ok .next) s1
      | some v => wpAny (model prog w) A (letOwnedTupleGo target it v) (fun _ s2 => wpAny (model prog w) A (assign target env v) (fun _ s3 =>
          wpAny (model prog w) A (forIn ifs true fun c r => if r = true then do let ok ← isTrue c env (eval c env); pure (ForInStep.yield ok) else pure (ForInStep.yield r)) (fun ok s3' =>
            if ok = true then wpAny (model prog w) A (eval elt env)
              (fun y s4 => wpAny (model prog w) A (call (.builtin "list.append") [acc, y]) (fun _ s5 => ∃ m, m < n ∧ J m s5) nope s4) nope s3' else ∃ m, m < n ∧ J m s3') nope s3) nope s2) nope s1) nope s)
    (n : Nat) (h : J n s) : codeAny (model prog w) A (.compLoop (.ListComp elt [⟨target, iter, ifs, 0⟩] scope pos) 0 it acc env) R s := by
  refine codeAny_loop rfl J (fun n s hJ => ?_) n h
  show wpAny (model prog w) A ((compTurn (.ListComp elt [⟨target, iter, ifs, 0⟩] scope pos) 0 it acc env).onRaise (fun z => do noteFrame z env; theTreesLotGoes z)) _ _ s
  refine wpAny_noted ?_
  rw [compTurn_list]
  refine wpAny_bind (wpAny_standAt (wpAny_bind (wpAny_mono (turn n s hJ) (fun r s1 h1 => ?_) fun _ _ z => z.elim)))
  cases r with
  | none => exact wpAny_pure h1
  | some v =>
    refine wpAny_bind (wpAny_mono h1 (fun _ s2 h2 => ?_) fun _ _ z => z.elim)
    refine wpAny_bind (wpAny_mono h2 (fun _ s3 h3 => ?_) fun _ _ z => z.elim)
    refine wpAny_bind (wpAny_mono h3 (fun ok s3' h3' => ?_) fun _ _ z => z.elim)
    cases ok with
    | false => exact wpAny_pure ⟨rfl, h3'⟩
    | true =>
      refine wpAny_bind (wpAny_bind (wpAny_mono h3' (fun y s4 h4 => ?_) fun _ _ z => z.elim))
      refine wpAny_bind (wpAny_mono h4 (fun _ s5 h5 => ?_) fun _ _ z => z.elim)
      exact wpAny_pure (wpAny_pure ⟨rfl, h5⟩)
end
noncomputable def PIfs (X : Cx) (ifs : List Expr) (tt : TT) : Prop :=
  ∀ (pins : List (Addr × Obj)) (s : Shared) (σ : L2.St) (H : Hp) (Q : Bool → Hp → Prop), Inv X pins σ H s → tt σ H Q →
    wpAny (model X.prog X.w) X.A (forIn ifs true fun c r => if r = true then do let ok ← isTrue c X.env (eval c X.env); pure (ForInStep.yield ok) else pure (ForInStep.yield r)) (TP X pins σ Q) X.xe s
noncomputable def tYes : TT := fun _ H Q => Q true H
theorem pifs_nil {X : Cx} : PIfs X [] tYes := fun pins s σ H Q I h => wpAny_tests_nil ⟨H, I, h⟩
theorem pifs_one {X : Cx} {c : Expr} {t : TT} (h : PT X c t) : PIfs X [c] t := fun pins s σ H Q I q => wpAny_tests_one (h pins s σ H Q I q)
noncomputable def tCompI (wi : TI) (tt : TT) (te : TE) : TE := fun σ H Q => wi σ H fun J H1 => ∃ W : Nat → Nat → List V → Hp → Prop, (∃ m, W 0 m [] H1) ∧ ∀ i m ys H, W i m ys H →
  (J.stop i H ∧ ys.length ≤ sizeLine ∧ ∀ p, H p = none → Q (.ref p) (upd H p (.lst ys))) ∨
  (J.go i H ∧ ys.length < sizeLine ∧ ∃ N : V → Hp → Prop, (∀ y H2, N y H2 → ∃ m', m' < m ∧ W (i + 1) m' (ys ++ [y]) H2) ∧
    ∀ x H', J.yld i H x H' → tt (some x :: σ) H' fun b H2 => if b = true then te (some x :: σ) H2 N else ∃ m', m' < m ∧ W (i + 1) m' ys H2)
noncomputable abbrev tComp (wi : TI) (te : TE) : TE := tCompI wi tYes te
theorem growC {X : Cx} {pins : List (Addr × Obj)} {σ : L2.St} {H : Hp} {s : Shared} {D : Addr} {its : List Value} {k : Nat} {u : Value} (I : Inv X pins σ H s) (hp : (D, lstO its k) ∈ X.pn ++ pins) (hsz : its.length ≤ sizeLine)
    (h1 : D ∈ X.ex ∨ X.s₀.heap.objs.size ≤ D) (h2 : ∀ y c, X.env.cells.lookup y = some c → c ≠ D) (hpn : X.pn = []) {Q : Value → Shared → Prop} {E : Value → Shared → Prop}
    (hQ : ∀ k' h', Inv X [(D, lstO (its ++ [u]) k')] σ H { s with heap := h' } → (∀ b o, b ≠ D → s.heap.get? b = some o → h'.get? b = some o) → Q .none { s with heap := h' }) :
    wpAny (model X.prog X.w) X.A (call (.builtin "list.append") [.ref D, u]) Q E s := by
  obtain ⟨e, n, nl, nf, nd⟩ := I.pin _ hp
  have e' : s.heap.get? D = some { cls := .type "list", data := .seq its.toArray k } := e
  refine call_meets F.slot_list_append ⟨_, e', rfl⟩ F.entry_list_append (F.args_list_append_2 _ _) (PySem.list_append D its.toArray k u (by rw [List.size_toArray]; exact hsz)) ⟨e', ?_⟩
  have q := PySem.IsL.update (h := s.heap) e' (fun z => z.push u)
  have kp : ∀ b o, b ≠ D → s.heap.get? b = some o → (s.heap.update D (Obj.mapSeq fun z => z.push u)).get? b = some o := fun b o hb w => (Heap.get?_update_other s.heap _ (Ne.symm hb)).trans w
  have ea : its.toArray.push u = (its ++ [u]).toArray := by simp
  rw [ea] at q
  generalize (if ((its ++ [u]).toArray.size == its.toArray.size) = true then k else k + 1) = k' at q
  have I1 : Inv X [] σ H s := I.pins_of fun p hp' => absurd hp' (by simp)
  have I2 : Inv X [] σ H { s with heap := s.heap.update D (Obj.mapSeq fun z => z.push u) } := I1.turned (t' := s.toks) kp n nl h1 h2 (by rw [hpn]; intro p hp'; exact absurd hp' (by simp))
  exact hQ k' _ (I2.pins_of fun p hp' => by
    have z : p = (D, lstO (its ++ [u]) k') := List.mem_singleton.mp hp'
    subst z
    exact ⟨q, n, nl, nf, fun v z => by cases z⟩) kp
theorem comp_main {X : Cx} {ifs : List Expr} {tt : TT} {elt iter : Expr} {x : Str} {px : Pos} {scope : Scope} {cl : List (Str × Addr)} {pos : Pos} {te : TE} {pins : List (Addr × Obj)} {σ : L2.St} {H2 : Hp} {s2 : Shared} {it : Addr} {fp : List Addr} {tn : Nat → Heap → Prop} {J : It} {W : Nat → Nat → List V → Hp → Prop} {m0 : Nat} {Rf : List V → Hp → Prop}
    {RR : Value → Addr → Result → Shared → Prop} {E : Value → Shared → Prop} (hc : X.calm = true) (CL : Clo X scope x cl) (ht : ∀ C s₀ H₀ ex, PIfs (cxC X scope cl x C s₀ H₀ ex) ifs tt) (he : ∀ C s₀ H₀ ex, PE (cxC X scope cl x C s₀ H₀ ex) elt te) (I2 : Inv X pins σ H2 s2) (T : Turn X.prog X.w X.K (.Name x px) J fp it tn) (st2 : tn 0 s2.heap)
    (f2 : ∀ b ∈ fp, FpOk X pins H2 b) (w0 : W 0 m0 [] H2)
    (turn : ∀ i m ys H, W i m ys H → (J.stop i H ∧ ys.length ≤ sizeLine ∧ Rf ys H) ∨ (J.go i H ∧ ys.length < sizeLine ∧ ∃ N : V → Hp → Prop, (∀ y H2, N y H2 → ∃ m', m' < m ∧ W (i + 1) m' (ys ++ [y]) H2) ∧
      ∀ x H', J.yld i H x H' → tt (some x :: σ) H' fun b H2 => if b = true then te (some x :: σ) H2 N else ∃ m', m' < m ∧ W (i + 1) m' ys H2))
    (fin : ∀ (D C : Addr) (ys : List V) (H3 : Hp) (its : List Value) (k : Nat) (s4 : Shared), s2.heap.objs.size ≤ C → s2.heap.objs.size ≤ D → D ≠ C → Inv (cxC X scope cl x C s2 H2 fp) [(D, lstO its k)] (none :: σ) H3 s4 → Vals ys its → ys.length ≤ sizeLine → Rf ys H3 → RR (.ref D) C (.ok .next) s4) :
    wpAny (model X.prog X.w) X.A (newList []) (fun acc s3 => wpAny (model X.prog X.w) X.A (newFunctionEnv scope X.env.globals cl [] X.env.qual none .none (some X.env)) (fun cenv s4 =>
      codeAny (model X.prog X.w) X.A (.compStart (.ListComp elt [⟨.Name x px, iter, ifs, 0⟩] scope pos) 0 (.ref it) acc { cenv with scope := relabel scope X.env }) (RR acc cenv.locals) s4) E s3) E s2 := by
  refine wpAny_newObj_type (wpAny_newFunctionEnv CL.cell (fun y hy => absurd hy (by simp)) (fun h1 hns hsb => ?_) CL.kind)
  dsimp only at hns hsb ⊢
  generalize hH : s2.heap.push { cls := .type "list", dict := none, data := .seq ([] : List Value).toArray } = G at hns hsb ⊢
  have hG : G.objs.size = s2.heap.objs.size + 1 := by rw [← hH, Heap.size_push]
  have hC : s2.heap.objs.size ≤ G.objs.size := by omega
  have hD : s2.heap.objs.size ≤ s2.heap.objs.size := Nat.le_refl _
  have hDC : s2.heap.objs.size ≠ G.objs.size := by omega
  have old : ∀ b o, s2.heap.get? b = some o → h1.get? b = some o := fun b o e =>
    hsb.extBut b o (Nat.ne_of_lt (Nat.lt_of_lt_of_le (Heap.lt_size e) hC)) (Heap.get?_push_of_some _ (hH ▸ Heap.get?_push_of_some _ e))
  have hacc : h1.get? s2.heap.objs.size = some (lstO [] 0) := hsb.extBut _ _ hDC (Heap.get?_push_of_some _ (hH ▸ Heap.get?_push_size _ rfl))
  have hfp : ∀ b ∈ fp, b < s2.heap.objs.size := fun b hb => by
    obtain ⟨o, e, _⟩ := T.obj _ _ st2 b hb
    exact Heap.lt_size e
  have cellD : ∀ y c, cl.lookup y = some c → c ≠ s2.heap.objs.size := fun y c hc' => by
    obtain ⟨v, q⟩ := I2.cell y c (CL.sub y c hc')
    exact Nat.ne_of_lt q.lt
  have start : ∀ tk, Inv (cxC X scope cl x G.objs.size s2 H2 fp) [(s2.heap.objs.size, lstO [] 0)] (none :: σ) H2 { s2 with heap := h1, toks := tk } := fun tk => invC I2 CL f2 hC hfp old hns hD hDC hacc
  have st1 : tn 0 h1 := T.keep 0 s2.heap h1 st2 fun b _ o e => old b o e
  have stat : ∀ {H' : Hp} {its : List Value} {k : Nat}, (∀ b ∈ fp, H' b = none) → ∀ b ∈ fp, FpOk (cxC X scope cl x G.objs.size s2 H2 fp) [(s2.heap.objs.size, lstO its k)] H' b := fun {H' its k} hn b hb => by
    refine ⟨hn b hb, Nat.ne_of_lt (Nat.lt_of_lt_of_le (hfp b hb) hC), fun z => ?_, .inl hb, fun y c hc' => (f2 b hb).2.2.2.2.1 y c (CL.sub y c hc'), fun p hp => ?_⟩
    · exact (List.mem_cons.mp (I2.stkSub b z)).elim (f2 b hb).2.1 (f2 b hb).2.2.1
    · have e : p = (s2.heap.objs.size, lstO its k) := by simpa [cxC] using hp
      subst e
      exact Ne.symm (Nat.ne_of_lt (hfp b hb))
  have loop : ∀ s₄ : Shared, s₄ = { s2 with heap := h1, toks := s2.toks + ([] : List (Str × Value)).length } →
      codeAny (model X.prog X.w) X.A (.compLoop (.ListComp elt [⟨.Name x px, iter, ifs, 0⟩] scope pos) 0 (.ref it) (.ref s2.heap.objs.size) (compEnvC scope cl G.objs.size X.env)) (RR (.ref s2.heap.objs.size) G.objs.size) s₄ := by
    rintro s₄ rfl
    refine loopC (fun n s' => ∃ i ys H' its k, Inv (cxC X scope cl x G.objs.size s2 H2 fp) [(s2.heap.objs.size, lstO its k)] (none :: σ) H' s' ∧ tn i s'.heap ∧ (∀ b ∈ fp, H' b = none) ∧ Vals ys its ∧ W i n ys H') ?_ m0
      ⟨0, [], H2, [], 0, start _, st1, fun b hb => (f2 b hb).1, .nil, w0⟩
    rintro n s3 ⟨i, ys, H3, its, k, I3, st3, fr3, rv, w3⟩
    rcases turn i n ys H3 w3 with ⟨stop, hz, hR⟩ | ⟨go, hz, N, hN, step⟩
    · refine thn (T.done (cxC X scope cl x G.objs.size s2 H2 fp) rfl rfl rfl hc i _ s3 _ H3 _ I3 (stat fr3) st3 stop) fun r s4 ⟨hr, I4⟩ => ?_
      subst hr
      exact fin _ _ ys H3 its k s4 hC hD hDC I4 rv hz hR
    · refine thn (T.item (cxC X scope cl x G.objs.size s2 H2 fp) rfl rfl rfl hc i _ s3 _ H3 _ I3 (stat fr3) st3 go) fun r s4 ⟨u, hr, h4⟩ => ?_
      subst hr
      refine thn h4 fun _ s5 ⟨xv, H5, I5, r5, y5, st5, fr5⟩ => ?_
      have I5' := I5.pinned (stat fr5) (T.obj _ _ st5)
      have pg : PG (cxC X scope cl x G.objs.size s2 H2 fp) (.Name x px) (gName 0) :=
        pg_name (X := cxC X scope cl x G.objs.size s2 H2 fp) (List.nodup_cons.mpr ⟨fun z => CL.noN x z CL.loc, CL.nd⟩) rfl (.inl (lookup_relabel_local CL.loc)) (.inr (lookup_relabel_local CL.loc))
      refine thn (pg _ s5 _ H5 xv u (fun σ' H' => σ' = some xv :: σ ∧ H' = H5) I5' r5 ⟨rfl, rfl⟩) fun _ s6 ⟨σ6, H6, I6, e6, e6'⟩ => ?_
      subst e6 e6'
      refine thn (ht G.objs.size s2 H2 fp _ s6 _ _ _ I6 (step xv _ y5)) fun ok s6' ⟨H6', I6', q6⟩ => ?_
      cases ok with
      | false =>
        obtain ⟨m', hm, w7⟩ := q6
        refine ⟨m', hm, i + 1, ys, H6', its, k, I6'.unpinned.weak (by simp) (fun j v' q => ?_), ?_, fun b hb => ?_, rv, w7⟩
        · cases j with
          | zero => simp at q
          | succ j => simpa using q
        · refine T.keep _ _ _ st5 fun b hb o e => ?_
          exact (I6'.pin (b, o) (List.mem_append_right _ (List.mem_append_right _ (mem_pinsAt hb e)))).1
        · obtain ⟨o, e, _⟩ := T.obj _ _ st5 b hb
          exact (I6'.pin (b, o) (List.mem_append_right _ (List.mem_append_right _ (mem_pinsAt hb e)))).2.1
      | true =>
      refine thn (he G.objs.size s2 H2 fp _ s6' _ _ N I6' q6) fun yv s7 ⟨y, H7, I7, r7, n7⟩ => ?_
      obtain ⟨m', hm, w7⟩ := hN y H7 n7
      have hlen := rv.length
      refine growC (X := cxC X scope cl x G.objs.size s2 H2 fp) (k := k) I7 (List.mem_append_right _ (List.mem_append_left _ (List.mem_singleton.mpr rfl))) (by omega) (.inr hD) (fun y' c hc' => cellD y' c hc') rfl fun k' h' I8 kp => ?_
      refine ⟨m', hm, i + 1, ys ++ [y], H7, its ++ [yv], k', I8.weak (by simp) (fun j v' q => ?_), ?_, fun b hb => ?_, rv.append (.cons r7 .nil), w7⟩
      · cases j with
        | zero => simp at q
        | succ j => simpa using q
      · refine T.keep _ _ _ st5 fun b hb o e => kp b o (Nat.ne_of_lt (hfp b hb)) ?_
        exact (I7.pin (b, o) (List.mem_append_right _ (List.mem_append_right _ (mem_pinsAt hb e)))).1
      · obtain ⟨o, e, _⟩ := T.obj _ _ st5 b hb
        exact (I7.pin (b, o) (List.mem_append_right _ (List.mem_append_right _ (mem_pinsAt hb e)))).2.1
  exact codeAny_compStart_list (loop _ rfl) (T.self _ 0 _ _ _ st1 (loop _ rfl))
theorem pe_lcompI {X : Cx} {ifs : List Expr} {tt : TT} {elt iter : Expr} {x : Str} {px : Pos} {scope : Scope} {cl : List (Str × Addr)} {pos : Pos} {wi : TI} {te : TE} (hc : X.calm = true) (hi : PI X (.Name x px) iter wi) (CL : Clo X scope x cl)
    (ht : ∀ C s₀ H₀ ex, PIfs (cxC X scope cl x C s₀ H₀ ex) ifs tt) (he : ∀ C s₀ H₀ ex, PE (cxC X scope cl x C s₀ H₀ ex) elt te) (hs : ∀ v, foldedSetIterable iter X.env v = pure v := by intro _; rfl) :
    PE X (.ListComp elt [⟨.Name x px, iter, ifs, 0⟩] scope pos) (tCompI wi tt te) := by
  intro pins s σ H Q I h
  rw [eval_ListComp]
  refine wpAny_comprehension_free (use := none) rfl hs CL.clos CL.kind CL.names (thn (hi pins s σ H _ I h) fun v s1 h1 => thn h1 fun itv s2 h2 => ?_)
  obtain ⟨it, fp, tn, J, H2, rfl, I2, T, st2, f2, W, ⟨m0, w0⟩, turn⟩ := h2
  refine comp_main (RR := fun acc C => compPost (model X.prog X.w) X.A X.xe none (EP X pins σ Q) acc C) hc CL ht he I2 T st2 f2 w0 turn fun D C ys H3 its k s4 hC hD hDC I4 rv hz hR => ?_
  obtain ⟨m, hn4, _⟩ := I4.loc
  refine ⟨m, hn4, fun h' sb => ⟨.ref D, upd H3 D (.lst ys), endC I2 f2 hC hD hDC I4 sb rv hz, rfl, hR _ ?_⟩⟩
  exact (I4.pin (D, lstO its k) (by simp [cxC])).2.1
theorem ps_setCompI {X : Cx} {ifs : List Expr} {tt : TT} {i : Nat} {y : Str} {py : Pos} {elt iter : Expr} {x : Str} {px : Pos} {scope : Scope} {cl : List (Str × Addr)} {pos spos : Pos} {wi : TI} {te : TE} (hN : X.N.Nodup) (hy : X.N[i]? = some y) (hly : Loc X.env.scope y) (hc : X.calm = true) (hi : PI X (.Name x px) iter wi)
    (CL : Clo X scope x cl) (ht : ∀ C s₀ H₀ ex, PIfs (cxC X scope cl x C s₀ H₀ ex) ifs tt) (he : ∀ C s₀ H₀ ex, PE (cxC X scope cl x C s₀ H₀ ex) elt te) (hsw : swapsWith (.ListComp elt [⟨.Name x px, iter, ifs, 0⟩] scope pos) (some (.Name y py)) spos.line X.env = pure true)
    (hs : ∀ v, foldedSetIterable iter X.env v = pure v := by intro _; rfl) (hf : X.fn y = true ∨ X.env.scope.names.lookup y = some .local := by first | exact .inl rfl | exact .inr rfl | assumption) :
    PS X (.Assign [.Name y py] (.ListComp elt [⟨.Name x px, iter, ifs, 0⟩] scope pos) spos) (tAsg (tCompI wi tt te) (gName i)) := by
  intro pins s σ H D0 I h
  rw [exec_Assign_Name_used _ _ _ _ hsw]
  refine wpAny_bind (wpAny_standAt (wpAny_bind ?_))
  show wpAny (model X.prog X.w) X.A (do let _ ← comprehension (.ListComp elt [⟨.Name x px, iter, ifs, 0⟩] scope pos) scope X.env _ (newList []) false (eval iter X.env) (some (assign (.Name y py) X.env))) _ _ s
  refine wpAny_bind (wpAny_mono (wpAny_comprehension_free (use := some (assign (.Name y py) X.env)) (Q := fun _ s' => SP X pins D0 .next s') rfl hs CL.clos CL.kind CL.names
    (thn (hi pins s σ H _ I h) fun v s1 h1 => thn h1 fun itv s2 h2 => ?_)) (fun _ s' hq => wpAny_pure (wpAny_pure hq)) fun _ _ e => e)
  obtain ⟨it, fp, tn, J, H2, rfl, I2, T, st2, f2, W, ⟨m0, w0⟩, turn⟩ := h2
  refine comp_main (RR := fun acc C => compPost (model X.prog X.w) X.A X.xe (some (assign (.Name y py) X.env)) (fun _ s' => SP X pins D0 .next s') acc C) hc CL ht he I2 T st2 f2 w0 turn fun D C ys H3 its k s4 hC hD hDC I4 rv hz hR => ?_
  obtain ⟨m, hn4, _⟩ := I4.loc
  have hD3 : H3 D = none := (I4.pin (D, lstO its k) (by simp [cxC])).2.1
  have J4 : Inv X pins σ (upd H3 D (.lst ys)) s4 := endC (h' := s4.heap) I2 f2 hC hD hDC I4 (Heap.SameBut.refl ..) rv hz
  have hCL : C ≠ X.env.locals := fun z => absurd (Nat.lt_of_lt_of_le I2.lt hC) (by rw [z]; exact Nat.lt_irrefl _)
  have hCc : ∀ z c, X.env.cells.lookup z = some c → c ≠ C := fun z c e => by
    obtain ⟨v, q⟩ := I2.cell z c e
    exact Nat.ne_of_lt (Nat.lt_of_lt_of_le q.lt hC)
  show wpAny _ X.A (assign (.Name y py) X.env (.ref D)) _ _ s4
  refine wpAny_assign_Name (store_ok2 J4 hN hy hly (show RelV (.ref D) (.ref D) from rfl) (fun s5 I5 ch => ?_) hf)
  obtain ⟨a, sb5, ha⟩ := ch
  have hCa : C ≠ a := by
    rcases ha with z | z
    · rw [z]; exact hCL
    · exact Ne.symm (hCc y a z)
  refine ⟨m, hn4.sameBut sb5 hCa, fun h' sb => ?_⟩
  have hCn : upd H3 D (.lst ys) C = none := by rw [upd_ne (Ne.symm hDC)]; exact I4.free
  refine ⟨_, _, I5.turned (t' := s5.toks) (fun b o hb e => (sb.2 b hb).trans e) hCn hCL (.inr (Nat.le_trans I2.sz hC)) hCc (fun p hp z => ?_), hR D hD3⟩
  exact absurd (Nat.lt_of_lt_of_le (Heap.lt_size (I2.pin p hp).1) (by rw [z]; exact hC)) (Nat.lt_irrefl _)
theorem pe_lcomp {X : Cx} {elt iter : Expr} {x : Str} {px : Pos} {scope : Scope} {cl : List (Str × Addr)} {pos : Pos} {wi : TI} {te : TE} (hc : X.calm = true) (hi : PI X (.Name x px) iter wi) (CL : Clo X scope x cl)
    (he : ∀ C s₀ H₀ ex, PE (cxC X scope cl x C s₀ H₀ ex) elt te) (hs : ∀ v, foldedSetIterable iter X.env v = pure v := by intro _; rfl) :
    PE X (.ListComp elt [⟨.Name x px, iter, [], 0⟩] scope pos) (tComp wi te) := pe_lcompI hc hi CL (fun _ _ _ _ => pifs_nil) he hs
theorem comp_tup {K : PySem.W.Frag} {a : Addr} {xs : List V} {te : TE} {σ : L2.St} {H : Hp} {R : List V → Hp → Prop} (Pv : Nat → List V → Hp → Prop) (hz : xs.length ≤ sizeLine) (h0 : Pv 0 [] H) (hl : ∀ i ys H, Pv i ys H → SqT K H a xs)
    (hs : ∀ i x ys H, xs[i]? = some x → Pv i ys H → te (some x :: σ) H fun y H2 => Pv (i + 1) (ys ++ [y]) H2) (hd : ∀ ys H, Pv xs.length ys H → ys.length = xs.length → R ys H) :
    ∃ W : Nat → Nat → List V → Hp → Prop, (∃ m, W 0 m [] H) ∧ ∀ i m ys H, W i m ys H → ((Itt K a).stop i H ∧ ys.length ≤ sizeLine ∧ R ys H) ∨
      ((Itt K a).go i H ∧ ys.length < sizeLine ∧ ∃ N : V → Hp → Prop, (∀ y H2, N y H2 → ∃ m', m' < m ∧ W (i + 1) m' (ys ++ [y]) H2) ∧ ∀ x H', (Itt K a).yld i H x H' → tYes (some x :: σ) H' fun b H2 => if b = true then te (some x :: σ) H2 N else ∃ m', m' < m ∧ W (i + 1) m' ys H2) := by
  refine ⟨fun i m ys H => m = xs.length - i ∧ i ≤ xs.length ∧ ys.length = i ∧ Pv i ys H, ⟨_, rfl, Nat.zero_le _, rfl, h0⟩, ?_⟩
  rintro i m ys H ⟨rfl, hi, hy, p⟩
  have q := hl i ys H p
  by_cases hlt : i < xs.length
  · refine .inr ⟨⟨xs, xs[i], q, by simp [hlt]⟩, by omega, fun y H2 => Pv (i + 1) (ys ++ [y]) H2, fun y H2 p' => ⟨xs.length - (i + 1), by omega, rfl, hlt, by simp [hy], p'⟩, fun x H' y => ?_⟩
    obtain ⟨e, y⟩ := y
    subst e
    exact hs i x ys _ (y xs q) p
  · have e : i = xs.length := by omega
    subst e
    exact .inl ⟨⟨xs, q, Nat.le_refl _⟩, by omega, hd ys H p hy⟩
noncomputable def tMid (t : TS) : TS := fun D σ H => ∃ M : L2.St → Hp → Prop, t { D with nx := M } σ H ∧ ∀ σ' H', M σ' H' → D.nx σ' H'
theorem ps_mid {X : Cx} {st : Stmt} {t : TS} (h : PS X st t) : PS X st (tMid t) := by
  intro pins s σ H D I ⟨M, hM, hn⟩
  refine thn (h pins s σ H { D with nx := M } I hM) fun fl s' z => ?_
  cases fl with
  | next =>
    obtain ⟨σ', H', I', m⟩ := z
    exact ⟨σ', H', I', hn σ' H' m⟩
  | ret u => exact z
  | brk => exact z
  | cont => exact z
end ST
set_option Elab.async false
set_option linter.all false
set_option maxRecDepth 100000
set_option maxHeartbeats 4000000
namespace ST
open PySem PySem.Spec PyProof.Rows L2
class TN where
  nm : Addr → Str
variable [TN]
class NT (o : HO) : Prop where
  no : ∀ ps, o ≠ HO.tbl ps
noncomputable instance {xs : List V} : NT (.lst xs) := ⟨fun _ h => nomatch h⟩
noncomputable instance {xs : List V} : NT (.tup xs) := ⟨fun _ h => nomatch h⟩
noncomputable instance {k : List (Key × V)} : NT (.dK k) := ⟨fun _ h => nomatch h⟩
noncomputable instance {k : List (List Key × V)} : NT (.dT k) := ⟨fun _ h => nomatch h⟩
noncomputable instance {φ : Heap → Prop} : NT (.ext φ) := ⟨fun _ h => nomatch h⟩
noncomputable instance {o : Obj} {u : HO} : NT (.frz o u) := ⟨fun _ h => nomatch h⟩
noncomputable def isF : HO → Bool
  | .frz _ _ => true
  | _ => false
noncomputable def TabQ (H : Hp) (P : Addr) (q : Str) : Prop := ∃ ps : Array Value, H P = some (.tbl ps) ∧ TriplesOk ps.toList ∧
  ∀ pos cv, codeAmong pos ps.toList = some cv → ∃ c o u vs t, cv = .ref c ∧ H c = some (.frz o u) ∧ o.data = .fields vs ∧ vs[1]? = some (.str q t)
structure Same (H H' : Hp) : Prop where
  go : ∀ b o, [NT o] → H b = some o → H' b = some o
  tab : ∀ b, TabQ H b (TN.nm b) → TabQ H' b (TN.nm b)
  tbl : ∀ b ps, H b = some (.tbl ps) → ∃ ps', H' b = some (.tbl ps')
noncomputable instance {H H' : Hp} : CoeFun (Same H H') fun _ => ∀ b o, [NT o] → H b = some o → H' b = some o := ⟨Same.go⟩
theorem Same.of {H H' : Hp} (h : ∀ b o, H b = some o → H' b = some o) : Same H H' :=
  ⟨fun b o _ e => h b o e, fun b ⟨ps, e, t, k⟩ => ⟨ps, h b _ e, t, fun pos cv z => by obtain ⟨c, o, u, vs, tt, e1, e2, e3⟩ := k pos cv z; exact ⟨c, o, u, vs, tt, e1, h c _ e2, e3⟩⟩, fun b ps e => ⟨ps, h b _ e⟩⟩
theorem Same.refl (H : Hp) : Same H H := .of fun _ _ h => h
theorem Same.trans {H H1 H2 : Hp} (a : Same H H1) (b : Same H1 H2) : Same H H2 :=
  ⟨fun c o i h => b.go c o (a.go c o h), fun c h => b.tab c (a.tab c h), fun c ps h => by obtain ⟨ps', e⟩ := a.tbl c ps h; exact b.tbl c ps' e⟩
theorem nt_or (o : HO) : NT o ∨ ∃ ps, o = .tbl ps := by
  by_cases h : ∃ ps, o = .tbl ps
  · exact .inr h
  · exact .inl ⟨fun ps e => h ⟨ps, e⟩⟩
theorem Same.free {H H' : Hp} (e : Same H H') {l : Addr} (h : H' l = Option.none) : H l = Option.none := by
  cases q : H l with
  | none => rfl
  | some o =>
    rcases nt_or o with i | ⟨ps, rfl⟩
    · rw [e.go l o q] at h; cases h
    · obtain ⟨ps', z⟩ := e.tbl l ps q
      rw [z] at h; cases h
theorem Same.seq {K : PySem.W.Frag} {H H' : Hp} {a : Addr} {xs : List V} (e : Same H H') (h : SqL K H a xs) : SqL K H' a xs := by
  rcases h with (h | ⟨o, h⟩) | h
  · exact .inl (.inl (e _ _ h))
  · exact .inl (.inr ⟨o, e _ _ h⟩)
  · exact .inr h
theorem same_new {H : Hp} {p : Addr} (h : H p = none) (o : HO) : Same H (upd H p o) := .of fun b u q => by rw [upd_ne (ne_of_none q h)]; exact q
theorem notf {H : Hp} {l : Addr} {x : HO} (e : H l = some x) (hx : isF x = false := by rfl) : ∀ o u, H l ≠ some (.frz o u) := fun o u z => by
  rw [e] at z
  cases z
  cases hx
theorem Same.upd {H₀ H : Hp} (g : Same H₀ H) {l : Addr} (h : H₀ l = none) (o : HO) (hc : ∀ o u, H l ≠ some (.frz o u) := by first | exact notf (by assumption) | exact notf upd_same | exact notf (Same.go (by assumption) _ _ (by assumption)) | exact notf (by rw [upd_ne (by assumption)]; first | assumption | exact Same.go (by assumption) _ _ (by assumption)) | exact notf (by rw [upd_ne (Ne.symm (by assumption))]; first | assumption | exact Same.go (by assumption) _ _ (by assumption)) | exact notf_none (by assumption)) : Same H₀ (L2.upd H l o) where
  go := fun b u i q => by rw [upd_ne (ne_of_none q h)]; exact g.go b u q
  tab := fun b t => by
    obtain ⟨ps0, e0, _⟩ := id t
    have hb : b ≠ l := ne_of_none e0 h
    obtain ⟨ps, e, tr, k⟩ := g.tab b t
    refine ⟨ps, by rw [upd_ne hb]; exact e, tr, fun pos cv z => ?_⟩
    obtain ⟨c, oc, u, vs, tt, e1, e2, e3⟩ := k pos cv z
    exact ⟨c, oc, u, vs, tt, e1, by rw [upd_ne (fun z => hc oc u (by rw [← z]; exact e2))]; exact e2, e3⟩
  tbl := fun b ps e => by
    obtain ⟨ps', z⟩ := g.tbl b ps e
    exact ⟨ps', by rw [upd_ne (ne_of_none e h)]; exact z⟩
end ST
set_option Elab.async false
set_option linter.all false
set_option maxRecDepth 100000
set_option maxHeartbeats 4000000
namespace ST
variable [TN]
open PySem L2
inductive D where
  | int (i : Int) | str (x : Str) | t1 (a : D) | t2 (a b : D) | t3 (a b c : D)
inductive Is (H : Hp) : V → D → Prop where
  | int (i : Int) : Is H (.int i) (.int i)
  | str (x : Str) : Is H (.str x) (.str x)
  | t1 {p : Addr} {x : V} {a : D} : H p = some (.tup [x]) → Is H x a → Is H (.ref p) (.t1 a)
  | t2 {p : Addr} {x y : V} {a b : D} : H p = some (.tup [x, y]) → Is H x a → Is H y b → Is H (.ref p) (.t2 a b)
  | t3 {p : Addr} {x y z : V} {a b c : D} : H p = some (.tup [x, y, z]) → Is H x a → Is H y b → Is H z c → Is H (.ref p) (.t3 a b c)
theorem Is.mono {H H' : Hp} (g : Same H H') {v : V} {d : D} (h : Is H v d) : Is H' v d := by
  induction h with
  | int i => exact .int i
  | str x => exact .str x
  | t1 e _ ia => exact .t1 (g _ _ e) ia
  | t2 e _ _ ia ib => exact .t2 (g _ _ e) ia ib
  | t3 e _ _ _ ia ib ic => exact .t3 (g _ _ e) ia ib ic
section
variable {H : Hp} {v : V} {i : Int} {x : Str} {a b c : D}
theorem is_int (h : Is H v (.int i)) : v = .int i := by cases h; rfl
theorem is_str (h : Is H v (.str x)) : v = .str x := by cases h; rfl
theorem is_t1 (h : Is H v (.t1 a)) : ∃ p u, v = .ref p ∧ H p = some (.tup [u]) ∧ Is H u a := by
  cases h with | t1 e q => exact ⟨_, _, rfl, e, q⟩
theorem is_t2 (h : Is H v (.t2 a b)) : ∃ p u w, v = .ref p ∧ H p = some (.tup [u, w]) ∧ Is H u a ∧ Is H w b := by
  cases h with | t2 e q r => exact ⟨_, _, _, rfl, e, q, r⟩
theorem is_t3 (h : Is H v (.t3 a b c)) : ∃ p u w z, v = .ref p ∧ H p = some (.tup [u, w, z]) ∧ Is H u a ∧ Is H w b ∧ Is H z c := by
  cases h with | t3 e q r s => exact ⟨_, _, _, _, rfl, e, q, r, s⟩
end
noncomputable def D.depth : D → Nat
  | int _ => 0
  | str _ => 0
  | t1 a => a.depth + 1
  | t2 a b => max a.depth b.depth + 1
  | t3 a b c => max (max a.depth b.depth) c.depth + 1
noncomputable def D.mv (far : Int) (word : Str) : D → D
  | int i => .int (if i = 1000000000000 then far else i)
  | str x => .str (if x = "" then word else x)
  | t1 a => .t1 (a.mv far word)
  | t2 a b => .t2 (a.mv far word) (b.mv far word)
  | t3 a b c => .t3 (a.mv far word) (b.mv far word) (c.mv far word)
inductive Kd where
  | n | t | p
  deriving DecidableEq
noncomputable def Kd.word : Kd → Str
  | n => "number"
  | t => "text"
  | p => "pair"
inductive Va where
  | int (i : Int) | str (x : Str) | pr (a b : Va)
  deriving DecidableEq
noncomputable def Va.d : Va → D
  | int i => .int i
  | str x => .str x
  | pr a b => .t2 a.d b.d
noncomputable def Va.kd : Va → Kd
  | int _ => .n
  | str _ => .t
  | pr _ _ => .p
inductive Sh where
  | any | kind (k : Kd) | si (i : Int) | ss (x : Str) | pair (a b : Sh)
noncomputable def Sh.d : Sh → D
  | any => .t1 (.str "any")
  | kind k => .t2 (.str "kind") (.str k.word)
  | si i => .t2 (.str "same") (.int i)
  | ss x => .t2 (.str "same") (.str x)
  | pair a b => .t3 (.str "pair") a.d b.d
noncomputable def fit : Sh → Va → Bool
  | .any, _ => true
  | .kind k, v => decide (v.kd = k)
  | .si i, .int j => decide (j = i)
  | .ss x, .str y => decide (y = x)
  | .pair a b, .pr x y => fit a x && fit b y
  | _, _ => false
noncomputable def outer : Sh → Va → Bool
  | .pair _ _, v => decide (v.kd = .p)
  | s, v => fit s v
noncomputable def Sh.leaf : Sh → Bool
  | .pair _ _ => false
  | _ => true
theorem outer_leaf {s : Sh} {v : Va} (h : s.leaf = true) : outer s v = fit s v := by
  cases s with
  | pair a b => cases h
  | _ => rfl
noncomputable def Sh.size : Sh → Nat
  | .pair a b => a.size + b.size + 1
  | _ => 1
theorem Sh.size_pos (s : Sh) : 1 ≤ s.size := by
  cases s with
  | pair a b => exact Nat.succ_le_succ (Nat.zero_le _)
  | _ => exact Nat.le_refl _
noncomputable def Sh.mv (far : Int) (word : Str) : Sh → Sh
  | any => any
  | kind k => kind k
  | si i => si (if i = 1000000000000 then far else i)
  | ss x => ss (if x = "" then word else x)
  | pair a b => pair (a.mv far word) (b.mv far word)
noncomputable def Va.mv (far : Int) (word : Str) : Va → Va
  | int i => int (if i = 1000000000000 then far else i)
  | str x => str (if x = "" then word else x)
  | pr a b => pr (a.mv far word) (b.mv far word)
theorem word_ne (k : Kd) : k.word ≠ "" := by cases k <;> decide +kernel
theorem any_ne : ("any" : Str) ≠ "" := by decide +kernel
theorem kind_ne : ("kind" : Str) ≠ "" := by decide +kernel
theorem same_ne : ("same" : Str) ≠ "" := by decide +kernel
theorem pair_ne : ("pair" : Str) ≠ "" := by decide +kernel
theorem Va.mv_d (far : Int) (word : Str) : ∀ v : Va, v.d.mv far word = (v.mv far word).d
  | int _ => rfl
  | str _ => rfl
  | pr a b => by
    show D.t2 (a.d.mv far word) (b.d.mv far word) = D.t2 _ _
    rw [a.mv_d far word, b.mv_d far word]
theorem Sh.mv_d (far : Int) (word : Str) : ∀ s : Sh, s.d.mv far word = (s.mv far word).d
  | any => by show D.t1 (.str (if _ then _ else _)) = _; rw [if_neg any_ne]; rfl
  | kind k => by show D.t2 (.str (if _ then _ else _)) (.str (if _ then _ else _)) = _; rw [if_neg kind_ne, if_neg (word_ne k)]; rfl
  | si i => by show D.t2 (.str (if _ then _ else _)) (.int _) = _; rw [if_neg same_ne]; rfl
  | ss x => by show D.t2 (.str (if _ then _ else _)) (.str _) = _; rw [if_neg same_ne]; rfl
  | pair a b => by
    show D.t3 (.str (if _ then _ else _)) (a.d.mv far word) (b.d.mv far word) = _
    rw [if_neg pair_ne, a.mv_d far word, b.mv_d far word]; rfl
theorem Sh.mv_size (far : Int) (word : Str) : ∀ s : Sh, (s.mv far word).size = s.size
  | any => rfl
  | kind _ => rfl
  | si _ => rfl
  | ss _ => rfl
  | pair a b => by
    show (a.mv far word).size + (b.mv far word).size + 1 = a.size + b.size + 1
    rw [a.mv_size far word, b.mv_size far word]
noncomputable def Pr (H : Hp) (v : V) (d : Sh × Va) : Prop := ∃ q a u, v = .ref q ∧ H q = some (.tup [a, u]) ∧ Is H a d.1.d ∧ Is H u d.2.d
inductive Stk (H : Hp) : List V → List (Sh × Va) → Prop where
  | nil : Stk H [] []
  | snoc {xs : List V} {ds : List (Sh × Va)} {v : V} {d : Sh × Va} : Stk H xs ds → Pr H v d → Stk H (xs ++ [v]) (d :: ds)
theorem Is.tk {H H' : Hp} (g : ∀ b xs, H b = some (.tup xs) → H' b = some (.tup xs)) {v : V} {d : D} (h : Is H v d) : Is H' v d := by
  induction h with
  | int i => exact .int i
  | str x => exact .str x
  | t1 e _ ia => exact .t1 (g _ _ e) ia
  | t2 e _ _ ia ib => exact .t2 (g _ _ e) ia ib
  | t3 e _ _ _ ia ib ic => exact .t3 (g _ _ e) ia ib ic
theorem Stk.tk {H H' : Hp} (g : ∀ b xs, H b = some (.tup xs) → H' b = some (.tup xs)) {xs : List V} {ds : List (Sh × Va)} (h : Stk H xs ds) : Stk H' xs ds := by
  induction h with
  | nil => exact .nil
  | snoc _ p ih =>
    obtain ⟨q, a, u, e, h1, h2, h3⟩ := p
    exact .snoc ih ⟨q, a, u, e, g _ _ h1, h2.tk g, h3.tk g⟩
theorem tk_of {H H' : Hp} (g : Same H H') : ∀ b xs, H b = some (.tup xs) → H' b = some (.tup xs) := fun b xs e => g.go b _ e
theorem tk_lst {H : Hp} {l : Addr} {xs ys : List V} (h : H l = some (.lst xs)) : ∀ b zs, H b = some (.tup zs) → upd H l (.lst ys) b = some (.tup zs) := fun b zs e => by
  rw [upd_ne (ne_of e h (by intro z; cases z))]; exact e
theorem Stk.len {H : Hp} {xs : List V} {ds : List (Sh × Va)} (h : Stk H xs ds) : xs.length = ds.length := by
  induction h with
  | nil => rfl
  | snoc _ _ ih => simp [ih]
noncomputable def szs : List (Sh × Va) → Nat
  | [] => 0
  | d :: r => d.1.size + szs r
theorem len_szs : ∀ ds : List (Sh × Va), ds.length ≤ szs ds
  | [] => Nat.le_refl _
  | d :: r => by
    have h1 := len_szs r
    have h2 := d.1.size_pos
    show r.length + 1 ≤ d.1.size + szs r
    omega
noncomputable def alls (ds : List (Sh × Va)) : Bool := ds.all fun d => fit d.1 d.2
theorem alls_cons (d : Sh × Va) (r : List (Sh × Va)) : alls (d :: r) = (fit d.1 d.2 && alls r) := rfl
end ST
set_option Elab.async false
set_option linter.all false
set_option maxRecDepth 100000
set_option maxHeartbeats 4000000
namespace ST
variable [TN]
open PySem L2
theorem iteT' {b : Bool} {A B : Prop} (hb : b = true) (h : A) : if b = true then A else B := by rw [if_pos hb]; exact h
theorem iteF' {b : Bool} {A B : Prop} (hb : b = false) (h : B) : if b = true then A else B := by
  rw [if_neg (by rw [hb]; exact Bool.false_ne_true)]; exact h
theorem iteB {b : Bool} {A B : Prop} (h1 : b = true → A) (h2 : b = false → B) : if b = true then A else B := by
  cases hb : b with
  | true => exact iteT' rfl (h1 hb)
  | false => exact iteF' rfl (h2 hb)
noncomputable def spKind : Sp := fun vs H Q _ => ∃ v x, vs = [v] ∧ Is H v (Va.d x) ∧ ∀ H', Same H H' → Q (.str x.kd.word) H'
noncomputable def spOut : Sp := fun vs H Q _ => ∃ a v s x, vs = [a, v] ∧ Is H a (Sh.d s) ∧ Is H v (Va.d x) ∧ ∀ H', Same H H' → Q (.bl (outer s x)) H'
noncomputable def spFit : Sp := fun vs H Q _ => ∃ a v s x, vs = [a, v] ∧ Is H a (Sh.d s) ∧ Is H v (Va.d x) ∧ s.size ≤ 1000 ∧ ∀ H', Same H H' → Q (.bl (fit s x)) H'
theorem dec_word (k k' : Kd) : decide (V.str k.word = V.str k'.word) = decide (k = k') := by cases k <;> cases k' <;> decide +kernel
theorem dec_wordP (k : Kd) : decide (V.str k.word = V.str "pair") = decide (k = .p) := dec_word k .p
theorem tyPop : typeOf (.builtin "list.pop") = pure (.type "method_descriptor") := by first | rfl | kernel_rfl
theorem tyApp : typeOf (.builtin "list.append") = pure (.type "method_descriptor") := by first | rfl | kernel_rfl
structure Loop (H₀ H : Hp) (l : Addr) (m : Nat) (want : Bool) : Prop where
  ex : ∃ xs ds, H l = some (.lst xs) ∧ Stk H xs ds ∧ alls ds = want ∧ szs ds = m
  same : Same H₀ H
  new : H₀ l = none
  few : m ≤ 1000
theorem Loop.start {H : Hp} {q l : Addr} {a v : V} {s : Sh} {x : Va} (ha : Is H a s.d) (hv : Is H v x.d) (hs : s.size ≤ 1000) (hq : H q = none) (hl : upd H q (.tup [a, v]) l = none) :
    Loop H (upd (upd H q (.tup [a, v])) l (.lst [.ref q])) l s.size (fit s x) := by
  have g1 : Same H (upd H q (.tup [a, v])) := same_new hq _
  have g2 := same_new hl (.lst [.ref q])
  refine ⟨⟨[.ref q], [(s, x)], upd_same, ?_, ?_, ?_⟩, g1.trans g2, g1.free hl, hs⟩
  · exact .snoc (xs := []) .nil ⟨q, a, v, rfl, g2 _ _ upd_same, (ha.mono g1).mono g2, (hv.mono g1).mono g2⟩
  · show (fit s x && true) = fit s x
    rw [Bool.and_true]
  · show s.size + 0 = s.size
    rw [Nat.add_zero]
theorem Loop.pop {H₀ H : Hp} {l : Addr} {m : Nat} {want : Bool} (h : Loop H₀ H l m want) :
    (∃ xs, H l = some (.lst xs) ∧ xs.isEmpty = true ∧ want = true) ∨
    ∃ xs q a v s x ds, H l = some (.lst xs) ∧ xs.isEmpty = false ∧ xs[xs.length - 1]? = some (.ref q) ∧ H q = some (.tup [a, v]) ∧ Is H a (Sh.d s) ∧ Is H v (Va.d x) ∧ (fit s x && alls ds) = want ∧ s.size + szs ds = m ∧
      Stk (upd H l (.lst xs.dropLast)) xs.dropLast ds ∧ Same H₀ (upd H l (.lst xs.dropLast)) ∧ (∀ b zs, H b = some (.tup zs) → upd H l (.lst xs.dropLast) b = some (.tup zs)) ∧ xs.dropLast.length ≤ 1000 := by
  obtain ⟨xs, ds, e, st, wa, sz⟩ := h.ex
  cases st with
  | nil => exact .inl ⟨[], e, rfl, wa.symm⟩
  | @snoc xs ds v d st p =>
    obtain ⟨q, a, u, rfl, h1, h2, h3⟩ := p
    have dl : (xs ++ [V.ref q]).dropLast = xs := by simp
    refine .inr ⟨xs ++ [.ref q], q, a, u, d.1, d.2, ds, e, by simp, by simp, h1, h2, h3, wa, sz, ?_, h.same.upd h.new _, tk_lst e, ?_⟩
    · rw [dl]
      exact st.tk (tk_lst e)
    · have h4 := st.len
      have h5 := len_szs ds
      have h6 : d.1.size + szs ds = m := sz
      have h7 := h.few
      rw [dl]
      omega
theorem Stk.more {H : Hp} {l q : Addr} {xs : List V} {ds : List (Sh × Va)} {a v : V} {s : Sh} {x : Va} (st : Stk H xs ds) (e : H l = some (.lst xs)) (ha : Is H a s.d) (hv : Is H v x.d) (hq : H q = none) :
    Stk (upd (upd H q (.tup [a, v])) l (.lst (xs ++ [.ref q]))) (xs ++ [.ref q]) ((s, x) :: ds) := by
  have g1 : Same H (upd H q (.tup [a, v])) := same_new hq _
  have t2 := tk_lst (ys := xs ++ [.ref q]) (g1 _ _ e)
  exact .snoc ((st.tk (tk_of g1)).tk t2) ⟨q, a, v, rfl, t2 _ _ upd_same, (ha.mono g1).tk t2, (hv.mono g1).tk t2⟩
theorem Loop.leaf {H₀ H₁ H : Hp} {l : Addr} {m : Nat} {want : Bool} {xs : List V} {ds : List (Sh × Va)} {s : Sh} {x : Va} (h : Loop H₀ H₁ l m want) (e : H l = some (.lst xs)) (st : Stk H xs ds) (hw : (fit s x && alls ds) = want) (hsz : s.size + szs ds = m)
    (g : Same H₀ H) (ho : outer s x = true) (hl : s.leaf = true) : ∃ m', m' < m ∧ Loop H₀ H l m' want := by
  have h1 := s.size_pos
  have h2 := h.few
  rw [outer_leaf hl] at ho
  rw [ho, Bool.true_and] at hw
  exact ⟨szs ds, by omega, ⟨xs, ds, e, st, hw, rfl⟩, g, h.new, by omega⟩
theorem Loop.parts {H₀ H₁ H : Hp} {l : Addr} {m : Nat} {want : Bool} {xs : List V} {ds es : List (Sh × Va)} {b c : Sh} {y z : Va} (h : Loop H₀ H₁ l m want) (e : H l = some (.lst xs)) (st : Stk H xs es) (he : es = (b, y) :: (c, z) :: ds ∨ es = (c, z) :: (b, y) :: ds)
    (hw : (fit (.pair b c) (.pr y z) && alls ds) = want) (hsz : (Sh.pair b c).size + szs ds = m) (g : Same H₀ H) : ∃ m', m' < m ∧ Loop H₀ H l m' want := by
  have h2 := h.few
  have h3 : b.size + c.size + 1 + szs ds = m := hsz
  have h4 : (fit b y && fit c z && alls ds) = want := hw
  rcases he with rfl | rfl
  · refine ⟨b.size + (c.size + szs ds), by omega, ⟨xs, _, e, st, ?_, rfl⟩, g, h.new, by omega⟩
    rw [alls_cons, alls_cons, ← Bool.and_assoc]
    exact h4
  · refine ⟨c.size + (b.size + szs ds), by omega, ⟨xs, _, e, st, ?_, rfl⟩, g, h.new, by omega⟩
    rw [alls_cons, alls_cons, ← Bool.and_assoc, Bool.and_comm (fit c z)]
    exact h4
theorem lenOk {n : Nat} (h : Nat.ble n 1000 = true) : n ≤ sizeLine := Nat.le_of_lt (small1000 (Nat.le_of_ble_eq_true h))
theorem lt_line {n : Nat} (h : n ≤ 1000) : n < sizeLine := small1000 h
theorem lt_line2 {n : Nat} (h : n ≤ 2000) : n < sizeLine := Nat.lt_of_le_of_lt h (by decide)
theorem le_line {n : Nat} (h : n ≤ 1000) : n ≤ sizeLine := Nat.le_of_lt (small1000 h)
theorem leaf_depth {s : Sh} (h : s.leaf = true) : s.d.depth ≤ 1 ∧ s.size = 1 := by
  cases s with
  | pair a b => cases h
  | any => exact ⟨by decide, rfl⟩
  | kind k => exact ⟨by show max 0 0 + 1 ≤ 1; decide, rfl⟩
  | si i => exact ⟨by show max 0 0 + 1 ≤ 1; decide, rfl⟩
  | ss i => exact ⟨by show max 0 0 + 1 ≤ 1; decide, rfl⟩
end ST
set_option Elab.async false
set_option linter.all false
set_option maxRecDepth 100000
set_option maxHeartbeats 4000000
namespace ST
variable [TN]
open PySem L2
noncomputable def tLit (d : D) : TE := fun _ H Q => ∀ v H', Same H H' → Is H' v d → Q v H'
inductive AllIs (H : Hp) : List V → List D → Prop where
  | nil : AllIs H [] []
  | cons {v : V} {d : D} {vs : List V} {ds : List D} : Is H v d → AllIs H vs ds → AllIs H (v :: vs) (d :: ds)
theorem AllIs.mono {H H' : Hp} (g : Same H H') {vs : List V} {ds : List D} (h : AllIs H vs ds) : AllIs H' vs ds := by
  induction h with
  | nil => exact .nil
  | cons i _ ih => exact .cons (i.mono g) ih
theorem AllIs.append {H : Hp} {vs us : List V} {ds es : List D} (h : AllIs H vs ds) (k : AllIs H us es) : AllIs H (vs ++ us) (ds ++ es) := by
  induction h with
  | nil => exact k
  | cons i _ ih => exact .cons i ih
theorem AllIs.len {H : Hp} {vs : List V} {ds : List D} (h : AllIs H vs ds) : vs.length = ds.length := by
  induction h with
  | nil => rfl
  | cons _ _ ih => simp [ih]
theorem AllIs.get {H : Hp} {vs : List V} {ds : List D} (h : AllIs H vs ds) : ∀ {j : Nat} {v : V}, vs[j]? = some v → ∃ d, ds[j]? = some d ∧ Is H v d := by
  induction h with
  | nil => intro j v q; simp at q
  | cons i _ ih =>
    intro j v q
    cases j with
    | zero =>
      cases (show some _ = some v by simpa using q)
      exact ⟨_, rfl, i⟩
    | succ j => exact ih (j := j) (by simpa using q)
theorem atI_in {α : Type} {xs : List α} {i : Int} (h0 : 0 ≤ i) (h1 : i < xs.length) : ∃ v, atI xs i = some v ∧ xs[i.toNat]? = some v := by
  have hj : i.toNat < xs.length := by omega
  have e : i = ((i.toNat : Nat) : Int) := by omega
  have q : atI xs ((i.toNat : Nat) : Int) = some xs[i.toNat] := atI_nat (List.getElem?_eq_getElem hj)
  rw [← e] at q
  exact ⟨xs[i.toNat], q, List.getElem?_eq_getElem hj⟩
theorem AllIs.at {H : Hp} {vs : List V} {ds : List D} {i : Int} (h : AllIs H vs ds) (h0 : 0 ≤ i) (h1 : i < ds.length) : ∃ v d, atI vs i = some v ∧ d ∈ ds ∧ Is H v d := by
  obtain ⟨v, q1, q2⟩ := atI_in (xs := vs) h0 (by rw [h.len]; exact h1)
  obtain ⟨d, q3, q4⟩ := h.get q2
  exact ⟨v, d, q1, List.mem_of_getElem? q3, q4⟩
theorem at3 {a b c : V} {i : Int} (h0 : 0 ≤ i) (h1 : i < 3) {P : V → Prop} (pa : P a) (pb : P b) (pc : P c) : ∃ v, atI [a, b, c] i = some v ∧ P v := by
  obtain ⟨v, q1, q2⟩ := atI_in (xs := [a, b, c]) h0 h1
  refine ⟨v, q1, ?_⟩
  have m := List.mem_of_getElem? q2
  simp only [List.mem_cons, List.not_mem_nil, or_false] at m
  rcases m with rfl | rfl | rfl
  · exact pa
  · exact pb
  · exact pc
theorem at2 {a b : V} {i : Int} (h0 : 0 ≤ i) (h1 : i < 2) {P : V → Prop} (pa : P a) (pb : P b) : ∃ v, atI [a, b] i = some v ∧ P v := by
  obtain ⟨v, q1, q2⟩ := atI_in (xs := [a, b]) h0 h1
  refine ⟨v, q1, ?_⟩
  have m := List.mem_of_getElem? q2
  simp only [List.mem_cons, List.not_mem_nil, or_false] at m
  rcases m with rfl | rfl
  · exact pa
  · exact pb
noncomputable def tAll (ds : List D) : TA := fun _ H Q => ∀ vs H', Same H H' → AllIs H' vs ds → Q vs H'
section
variable {X : Cx} {a b c : Expr} {es : List Expr} {d d1 d2 : D} {ds : List D} {k : Nat} {pos : Pos}
theorem lit_int {i : Int} : PE X (.Constant (.int i) k pos) (tLit (.int i)) := peImp pe_int fun _ H _ h => h _ H (Same.refl H) (.int i)
theorem lit_str {x : Str} : PE X (.Constant (.str x) k pos) (tLit (.str x)) := peImp pe_str fun _ H _ h => h _ H (Same.refl H) (.str x)
theorem lit_neg {i : Int} {pos' : Pos} : PE X (.UnaryOp .USub (.Constant (.int i) k pos) pos') (tLit (.int (-i))) := peImp (pe_un un_neg pe_int) fun _ H _ h => ⟨i, rfl, h _ H (Same.refl H) (.int _)⟩
theorem all_nil : PA X [] (tAll []) := paImp pa_nil fun _ H _ h => h [] H (Same.refl H) .nil
theorem all_cons (he : PE X a (tLit d)) (hr : PA X es (tAll ds)) (hs : starEach (a :: es) X.env = (false, eval a X.env) :: starEach es X.env := by rfl) : PA X (a :: es) (tAll (d :: ds)) :=
  paImp (pa_cons he hr hs) fun _ _ _ h _ _ g1 i1 _ _ g2 i2 => h _ _ (g1.trans g2) (.cons (i1.mono g2) i2)
theorem lit_t1 (h : PA X [a] (tAll [d])) : PE X (.Tuple [a] k pos) (tLit (.t1 d)) := peImp (pe_tup h) fun _ _ _ h vs H1 g1 i1 => by
  cases i1 with
  | cons i r =>
    cases r
    exact ⟨lenOk rfl, fun p hp => h _ _ (g1.trans (same_new hp _)) (.t1 upd_same (i.mono (same_new hp _)))⟩
theorem lit_t2 (h : PA X [a, b] (tAll [d, d1])) : PE X (.Tuple [a, b] k pos) (tLit (.t2 d d1)) := peImp (pe_tup h) fun _ _ _ h vs H1 g1 i1 => by
  cases i1 with
  | cons i r =>
    cases r with
    | cons i' r =>
      cases r
      exact ⟨lenOk rfl, fun p hp => h _ _ (g1.trans (same_new hp _)) (.t2 upd_same (i.mono (same_new hp _)) (i'.mono (same_new hp _)))⟩
theorem al_int {i : Int} (hr : PA X es (tAll ds)) : PA X (.Constant (.int i) k pos :: es) (tAll (.int i :: ds)) := all_cons lit_int hr
theorem al_str {x : Str} (hr : PA X es (tAll ds)) : PA X (.Constant (.str x) k pos :: es) (tAll (.str x :: ds)) := all_cons lit_str hr
theorem al_neg {i : Int} {pos' : Pos} (hr : PA X es (tAll ds)) : PA X (.UnaryOp .USub (.Constant (.int i) k pos) pos' :: es) (tAll (.int (-i) :: ds)) := all_cons lit_neg hr
theorem al_t1 (h : PA X [a] (tAll [d])) (hr : PA X es (tAll ds)) : PA X (.Tuple [a] k pos :: es) (tAll (.t1 d :: ds)) := all_cons (lit_t1 h) hr
theorem al_t2 (h : PA X [a, b] (tAll [d, d1])) (hr : PA X es (tAll ds)) : PA X (.Tuple [a, b] k pos :: es) (tAll (.t2 d d1 :: ds)) := all_cons (lit_t2 h) hr
noncomputable def tLitL (ds : List D) : TE := fun _ H Q => ∀ l vs H', Same H H' → H' l = some (.lst vs) → AllIs H' vs ds → Q (.ref l) H'
theorem lit_lst (h : PA X es (tAll ds)) (hz : ds.length ≤ 1000 := by decide) : PE X (.List es pos) (tLitL ds) := peImp (pe_lst h) fun _ _ _ h vs H1 g1 i1 =>
  ⟨le_line (by rw [i1.len]; exact hz), fun p hp => h _ _ _ (g1.trans (same_new hp _)) upd_same (i1.mono (same_new hp _))⟩
end
section
variable {X : Cx} {es : List Expr} {ds : List D} {pos : Pos}
noncomputable def tLitF (ds : List D) : TE := fun _ H Q => ∀ l vs H', Same H H' → H l = none → H' l = some (.lst vs) → AllIs H' vs ds → Q (.ref l) H'
theorem lit_lstF (h : PA X es (tAll ds)) (hz : ds.length ≤ 1000 := by decide) : PE X (.List es pos) (tLitF ds) := peImp (pe_lst h) fun _ _ _ h vs H1 g1 i1 =>
  ⟨le_line (by rw [i1.len]; exact hz), fun p hp => h _ _ _ (g1.trans (same_new hp _)) (g1.free hp) upd_same (i1.mono (same_new hp _))⟩
end
theorem cut_ints (ns : List Int) (lo hi : Option Int) : ∃ ms : List Int, cutV (ns.map V.int) lo hi = ms.map V.int ∧ ms.length ≤ ns.length := by
  refine ⟨(ns.drop (HT.sIx ns.length 0 lo)).take (HT.sIx ns.length ns.length hi - HT.sIx ns.length 0 lo), ?_, ?_⟩
  · unfold cutV
    rw [List.length_map, List.map_take, List.map_drop]
  · rw [List.length_take, List.length_drop]
    omega
theorem int_at {ns : List Int} {i : Int} (h0 : 0 ≤ i) (h1 : i < ns.length) : ∃ n, atI (ns.map V.int) i = some (.int n) := by
  obtain ⟨v, q1, q2⟩ := atI_in (xs := ns.map V.int) h0 (by rw [List.length_map]; exact h1)
  rw [List.getElem?_map] at q2
  cases e : ns[i.toNat]? with
  | none => rw [e] at q2; cases q2
  | some n => rw [e] at q2; cases q2; exact ⟨n, q1⟩
end ST
set_option Elab.async false
set_option linter.all false
set_option maxRecDepth 100000
set_option maxHeartbeats 4000000
namespace ST
variable [TN]
open PySem PySem.Spec PyProof.Rows L2
noncomputable def closL (cells : List (Str × Addr)) : List (Str × NameKind) → List (Str × Addr) → List (Str × Addr)
  | [], acc => acc
  | (n, k) :: r, acc => if (k == .free) = true then closL cells r ((n, (cells.lookup n).getD 0) :: acc) else closL cells r acc
theorem closureFor_eq {scope : Scope} {env : Env} (h : ∀ p ∈ scope.names, p.2 = .free → ∃ c, env.cells.lookup p.1 = some c) : closureFor scope env = pure (closL env.cells scope.names []) := by
  unfold closureFor
  dsimp only
  generalize scope.names = l at h ⊢
  generalize ([] : List (Str × Addr)) = acc
  have go : ∀ (l : List (Str × NameKind)) (acc : List (Str × Addr)), (∀ p ∈ l, p.2 = .free → ∃ c, env.cells.lookup p.1 = some c) →
      (forIn l acc fun x r => if (x.2 == NameKind.free) = true then do let y ← cellOf env x.1; pure (ForInStep.yield ((x.1, y) :: r)) else pure (ForInStep.yield r)) = (pure (closL env.cells l acc) : Sem _) := by
    intro l
    induction l with
    | nil => intro acc _; rfl
    | cons p r ih =>
      intro acc h
      obtain ⟨n, k⟩ := p
      rw [List.forIn_cons]
      have hr : ∀ q ∈ r, q.2 = NameKind.free → ∃ c, env.cells.lookup q.1 = some c := fun q hq => h q (List.mem_cons_of_mem _ hq)
      by_cases hk : k = .free
      · subst hk
        obtain ⟨c, hc⟩ := h (n, .free) List.mem_cons_self rfl
        have e1 : cellOf env n = pure c := by unfold cellOf; rw [show env.cells.lookup n = some c from hc]
        show (do let y ← (do let y ← cellOf env n; pure (ForInStep.yield ((n, y) :: acc))); _) = _
        rw [e1]
        have e2 : closL env.cells ((n, NameKind.free) :: r) acc = closL env.cells r ((n, c) :: acc) := by
          show (if (NameKind.free == NameKind.free) = true then _ else _) = _
          rw [if_pos (show (NameKind.free == NameKind.free) = true from rfl), show env.cells.lookup n = some c from hc]; rfl
        rw [e2]
        exact ih _ hr
      · have hb : (k == NameKind.free) = false := by simpa using hk
        have e2 : closL env.cells ((n, k) :: r) acc = closL env.cells r acc := by
          show (if (k == NameKind.free) = true then _ else _) = _
          rw [hb]; rfl
        rw [e2]
        simp only [hb, Bool.false_eq_true, if_false]
        exact ih _ hr
  have z := go l acc h
  first | exact z | (refine Eq.trans ?_ z; rfl) | (simp only [bind_pure]; exact z)
theorem closL_sub {cells : List (Str × Addr)} {y : Str} {c : Addr} : ∀ (l : List (Str × NameKind)) (acc : List (Str × Addr)), (∀ p ∈ l, p.2 = .free → ∃ c, cells.lookup p.1 = some c) → (∀ y c, acc.lookup y = some c → cells.lookup y = some c) →
    (closL cells l acc).lookup y = some c → cells.lookup y = some c
  | [], acc, _, ha, h => ha y c h
  | (n, k) :: r, acc, hl, ha, h => by
    have hr : ∀ q ∈ r, q.2 = NameKind.free → ∃ c, cells.lookup q.1 = some c := fun q hq => hl q (List.mem_cons_of_mem _ hq)
    unfold closL at h
    split at h
    · rename_i hk
      obtain ⟨c', hc'⟩ := hl (n, k) List.mem_cons_self (by simpa using hk)
      refine closL_sub r _ hr (fun z d hz => ?_) h
      rw [List.lookup_cons] at hz
      cases e : z == n with
      | true =>
        have e' : z = n := by simpa using e
        subst e'
        rw [e] at hz
        have hc2 : cells.lookup z = some c' := hc'
        rw [hc2] at hz ⊢
        exact hz
      | false => rw [e] at hz; exact ha z d hz
    · exact closL_sub r acc hr ha h
theorem closL_keep {cells : List (Str × Addr)} {y : Str} : ∀ (l : List (Str × NameKind)) (acc : List (Str × Addr)), (∃ c, acc.lookup y = some c) → ∃ c, (closL cells l acc).lookup y = some c
  | [], acc, h => h
  | (n, k) :: r, acc, h => by
    unfold closL
    split
    · refine closL_keep r _ ?_
      rw [List.lookup_cons]
      cases e : y == n with
      | true => exact ⟨_, rfl⟩
      | false => exact h
    · exact closL_keep r acc h
theorem closL_has {cells : List (Str × Addr)} {y : Str} : ∀ (l : List (Str × NameKind)) (acc : List (Str × Addr)), l.lookup y = some .free → ∃ c, (closL cells l acc).lookup y = some c
  | [], acc, h => by simp at h
  | (n, k) :: r, acc, h => by
    rw [List.lookup_cons] at h
    unfold closL
    cases e : y == n with
    | true =>
      rw [e] at h
      have hk : k = .free := by simpa using h
      subst hk
      rw [if_pos (show (NameKind.free == NameKind.free) = true from rfl)]
      refine closL_keep r _ ?_
      rw [List.lookup_cons, e]
      exact ⟨_, rfl⟩
    | false =>
      rw [e] at h
      split
      · exact closL_has r _ h
      · exact closL_has r _ h
structure CloS (X : Cx) (scope : Scope) (x : Str) : Prop where
  out : ∀ p ∈ scope.names, p.2 = .free → X.env.scope.names.lookup p.1 = some .cell
  cell : ∀ y ∈ scope.names, y.2 ≠ .cell
  kind : scope.kind = .function
  names : ∀ y ∈ scope.names, y.2 = .local → scope.names.lookup y.1 = some .local
  loc : scope.names.lookup x = some .local
  noN : ∀ y ∈ X.N, scope.names.lookup y ≠ some .local
  nd : X.N.Nodup
  okind : X.env.scope.kind = .function
noncomputable def cloOk (scope : Scope) (names : List (Str × NameKind)) (N : List Str) (x : Str) : Bool :=
  scope.names.all (fun p => !decide (p.2 = .free) || decide (names.lookup p.1 = some .cell)) && scope.names.all (fun p => !decide (p.2 = .cell)) && decide (scope.kind = .function) &&
  scope.names.all (fun p => !decide (p.2 = .local) || decide (scope.names.lookup p.1 = some .local)) && decide (scope.names.lookup x = some .local) && N.all (fun y => !decide (scope.names.lookup y = some .local)) && decide N.Nodup
theorem cloS_of {X : Cx} {scope : Scope} {x : Str} (names : List (Str × NameKind)) (N : List Str) (h1 : X.env.scope.names = names) (h2 : X.N = N) (ok : cloOk scope names N x = true) (h3 : X.env.scope.kind = .function) : CloS X scope x := by
  subst h1 h2
  unfold cloOk at ok
  simp only [Bool.and_eq_true, List.all_eq_true, Bool.or_eq_true, Bool.not_eq_true', decide_eq_true_eq, decide_eq_false_iff_not] at ok
  obtain ⟨⟨⟨⟨⟨⟨o1, o2⟩, o3⟩, o4⟩, o5⟩, o6⟩, o7⟩ := ok
  exact ⟨fun p hp hk => (o1 p hp).resolve_left fun z => z hk, o2, o3, fun p hp hk => (o4 p hp).resolve_left fun z => z hk, o5, o6, o7, h3⟩
theorem CloS.clo {X : Cx} {scope : Scope} {x : Str} {pins : List (Addr × Obj)} {σ : L2.St} {H : Hp} {s : Shared} (CS : CloS X scope x) (I : Inv X pins σ H s) : Clo X scope x (closL X.env.cells scope.names []) where
  clos := closureFor_eq fun p hp hk => I.ok.has p.1 (.inl (CS.out p hp hk))
  sub := fun y c h => closL_sub scope.names [] (fun p hp hk => I.ok.has p.1 (.inl (CS.out p hp hk))) (fun z d hz => by simp at hz) h
  free := fun y h => closL_has scope.names [] h
  out := fun y h => CS.out (y, .free) (PySem.mem_of_lookup h) rfl
  cell := CS.cell
  kind := CS.kind
  names := CS.names
  loc := CS.loc
  noN := CS.noN
  nd := CS.nd
  okind := CS.okind
theorem pe_lcompIS {X : Cx} {ifs : List Expr} {tt : TT} {elt iter : Expr} {x : Str} {px : Pos} {scope : Scope} {pos : Pos} {wi : TI} {te : TE} (hc : X.calm = true) (hi : PI X (.Name x px) iter wi) (CS : CloS X scope x)
    (ht : ∀ cl C s₀ H₀ ex, PIfs (cxC X scope cl x C s₀ H₀ ex) ifs tt) (he : ∀ cl C s₀ H₀ ex, PE (cxC X scope cl x C s₀ H₀ ex) elt te) (hs : ∀ v, foldedSetIterable iter X.env v = pure v := by intro _; rfl) :
    PE X (.ListComp elt [⟨.Name x px, iter, ifs, 0⟩] scope pos) (tCompI wi tt te) := fun pins s σ H Q I h => pe_lcompI hc hi (CS.clo I) (ht _) (he _) hs pins s σ H Q I h
theorem pe_lcompS {X : Cx} {elt iter : Expr} {x : Str} {px : Pos} {scope : Scope} {pos : Pos} {wi : TI} {te : TE} (hc : X.calm = true) (hi : PI X (.Name x px) iter wi) (CS : CloS X scope x)
    (he : ∀ cl C s₀ H₀ ex, PE (cxC X scope cl x C s₀ H₀ ex) elt te) (hs : ∀ v, foldedSetIterable iter X.env v = pure v := by intro _; rfl) :
    PE X (.ListComp elt [⟨.Name x px, iter, [], 0⟩] scope pos) (tComp wi te) := pe_lcompIS hc hi CS (fun _ _ _ _ _ => pifs_nil) he hs
theorem ps_setCompIS {X : Cx} {ifs : List Expr} {tt : TT} {i : Nat} {y : Str} {py : Pos} {elt iter : Expr} {x : Str} {px : Pos} {scope : Scope} {pos spos : Pos} {wi : TI} {te : TE} (hN : X.N.Nodup) (hy : X.N[i]? = some y) (hly : Loc X.env.scope y) (hc : X.calm = true) (hi : PI X (.Name x px) iter wi)
    (CS : CloS X scope x) (ht : ∀ cl C s₀ H₀ ex, PIfs (cxC X scope cl x C s₀ H₀ ex) ifs tt) (he : ∀ cl C s₀ H₀ ex, PE (cxC X scope cl x C s₀ H₀ ex) elt te) (hsw : swapsWith (.ListComp elt [⟨.Name x px, iter, ifs, 0⟩] scope pos) (some (.Name y py)) spos.line X.env = pure true := by rfl)
    (hs : ∀ v, foldedSetIterable iter X.env v = pure v := by intro _; rfl) (hf : X.fn y = true ∨ X.env.scope.names.lookup y = some .local := by first | exact .inl rfl | exact .inr rfl | assumption) :
    PS X (.Assign [.Name y py] (.ListComp elt [⟨.Name x px, iter, ifs, 0⟩] scope pos) spos) (tAsg (tCompI wi tt te) (gName i)) := fun pins s σ H D I h => ps_setCompI hN hy hly hc hi (CS.clo I) (ht _) (he _) hsw hs hf pins s σ H D I h
theorem ps_setCompS {X : Cx} {i : Nat} {y : Str} {py : Pos} {elt iter : Expr} {x : Str} {px : Pos} {scope : Scope} {pos spos : Pos} {wi : TI} {te : TE} (hN : X.N.Nodup) (hy : X.N[i]? = some y) (hly : Loc X.env.scope y) (hc : X.calm = true) (hi : PI X (.Name x px) iter wi)
    (CS : CloS X scope x) (he : ∀ cl C s₀ H₀ ex, PE (cxC X scope cl x C s₀ H₀ ex) elt te) (hsw : swapsWith (.ListComp elt [⟨.Name x px, iter, [], 0⟩] scope pos) (some (.Name y py)) spos.line X.env = pure true := by rfl)
    (hs : ∀ v, foldedSetIterable iter X.env v = pure v := by intro _; rfl) (hf : X.fn y = true ∨ X.env.scope.names.lookup y = some .local := by first | exact .inl rfl | exact .inr rfl | assumption) :
    PS X (.Assign [.Name y py] (.ListComp elt [⟨.Name x px, iter, [], 0⟩] scope pos) spos) (tAsg (tComp wi te) (gName i)) := ps_setCompIS hN hy hly hc hi CS (fun _ _ _ _ _ => pifs_nil) he hsw hs hf
theorem comp_list {K : PySem.W.Frag} {a : Addr} {xs : List V} {te : TE} {σ : L2.St} {H : Hp} {R : List V → Hp → Prop} (Pv : Nat → List V → Hp → Prop) (hz : xs.length ≤ sizeLine) (h0 : Pv 0 [] H) (hl : ∀ i ys H, Pv i ys H → SqL K H a xs)
    (hs : ∀ i x ys H, xs[i]? = some x → Pv i ys H → te (some x :: σ) H fun y H2 => Pv (i + 1) (ys ++ [y]) H2) (hd : ∀ ys H, Pv xs.length ys H → ys.length = xs.length → R ys H) :
    ∃ W : Nat → Nat → List V → Hp → Prop, (∃ m, W 0 m [] H) ∧ ∀ i m ys H, W i m ys H → ((Itl K a).stop i H ∧ ys.length ≤ sizeLine ∧ R ys H) ∨
      ((Itl K a).go i H ∧ ys.length < sizeLine ∧ ∃ N : V → Hp → Prop, (∀ y H2, N y H2 → ∃ m', m' < m ∧ W (i + 1) m' (ys ++ [y]) H2) ∧ ∀ x H', (Itl K a).yld i H x H' → tYes (some x :: σ) H' fun b H2 => if b = true then te (some x :: σ) H2 N else ∃ m', m' < m ∧ W (i + 1) m' ys H2) := by
  refine ⟨fun i m ys H => m = xs.length - i ∧ i ≤ xs.length ∧ ys.length = i ∧ Pv i ys H, ⟨_, rfl, Nat.zero_le _, rfl, h0⟩, ?_⟩
  rintro i m ys H ⟨rfl, hi, hy, p⟩
  have q := hl i ys H p
  by_cases hlt : i < xs.length
  · refine .inr ⟨⟨xs, xs[i], q, by simp [hlt]⟩, by omega, fun y H2 => Pv (i + 1) (ys ++ [y]) H2, fun y H2 p' => ⟨xs.length - (i + 1), by omega, rfl, hlt, by simp [hy], p'⟩, fun x H' y => ?_⟩
    obtain ⟨e, y⟩ := y
    subst e
    exact hs i x ys _ (y xs q) p
  · have e : i = xs.length := by omega
    subst e
    exact .inl ⟨⟨xs, q, Nat.le_refl _⟩, by omega, hd ys H p hy⟩
noncomputable def It2 (n : Nat) : It := ⟨fun i _ => i < n, fun i H x H' => H' = H ∧ x = .int (0 + i * 2), fun i _ => n ≤ i⟩
theorem turn_2 {P : Program} {w : World} {K : PySem.W.Frag} {tg : Expr} (it : Addr) (n : Nat) : Turn P w K tg (It2 n) [it] it (fun i h => IsRangeIter h it (0 + (i : Nat) * 2) ((n : Int) - (i : Nat)) 2) where
  mem := by simp
  obj := fun i h st b hb => by
    have e : b = it := by simpa using hb
    subst e
    exact ⟨_, st, fun v z => by cases (show Data.fields _ = Data.cell v from z)⟩
  keep := fun i h h' st k => k it (by simp) _ st
  item := by
    intro X hP hw hK hc i pins s σ H E I hf st hg
    subst hP hw hK
    obtain ⟨f0, f1, f2, f3, f4, f5⟩ := hf it (by simp)
    refine (Walks.range (prog := X.prog) (w := X.w) (I.ok.hd hc) it 0 2 n).item i s _ _ hg st fun v h' tk hv st' kk => ?_
    obtain ⟨t, rfl⟩ := hv
    have J : Inv X pins σ H { s with heap := h', toks := tk } := I.turned (fun b o hb e => kk b o (by simpa using hb) e) f0 f1 f3 f4 f5
    exact ⟨_, rfl, go_of (s := { s with heap := h', toks := tk }) (n := "range_iterator") st' rfl rfl (by decide) ⟨.int (0 + i * 2), H, J, ⟨t, rfl⟩, ⟨rfl, rfl⟩, st', fun b hb => (hf b hb).1⟩⟩
  done := by
    intro X hP hw hK hc i pins s σ H E I hf st hg
    subst hP hw hK
    obtain ⟨f0, f1, f2, f3, f4, f5⟩ := hf it (by simp)
    refine wpAny_pyNext_range_end (I.ok.hd hc) st (by have : n ≤ i := hg; omega) fun h' eb => ⟨rfl, ?_⟩
    exact I.turned (t' := s.toks) (fun b o hb e => eb b o hb e) f0 f1 f3 f4 f5
  self := fun _ _ _ _ _ st h => wpAny_pyIter_rangeiter st h
noncomputable def iRng02 (ta : TA) : TI := fun σ H R => ta σ H fun vs H1 => ∃ j : Int, vs = [.int 0, .int j, .int 2] ∧ -1000 ≤ j ∧ j < 100000 ∧ R (It2 ((j + 1) / 2).toNat) H1
theorem small_02 {j : Int} (h1 : -1000 ≤ j) (h2 : j < 100000) : Builtin.Range.small 0 j 2 = true ∧ Builtin.Range.rangeSize 0 j 2 = ((((j + 1) / 2).toNat : Nat) : Int) := by
  have e : Builtin.Range.rangeSize 0 j 2 = ((((j + 1) / 2).toNat : Nat) : Int) := by
    unfold Builtin.Range.rangeSize
    simp only [show (2 : Int) > 0 by decide, if_true]
    split <;> omega
  refine ⟨?_, e⟩
  unfold Builtin.Range.small
  rw [e]
  simp only [Builtin.Range.rangeFitsLong, Bool.and_eq_true, Bool.or_eq_true, decide_eq_true_eq, beq_iff_eq, show (2 : Int) > 0 by decide, if_true]
  omega
theorem pi_range02 {X : Cx} {tg : Expr} {a b c : Expr} {ta : TA} {p pos : Pos} (hg : Gl X "range") (hm : X.mg "range" = none) (ha : PA X [a, b, c] ta) (hs : starEach [a, b, c] X.env = (false, eval a X.env) :: starEach [b, c] X.env := by rfl)
    (hpl : (backTo pos (starEach [b, c] X.env)).any (·.1) = false := by rfl) : PI X tg (.Call (.Name "range" p) [a, b, c] [] pos) (iRng02 ta) := by
  intro pins s σ H R I h
  refine Call_ (ld_blt I hg hm boot_range (PyProof.Rows.callWith_type1 (thn (ha pos pins s σ H _ I h) fun us s1 ⟨vs, H1, I1, r1, q1⟩ => ?_) hs hpl))
  obtain ⟨j, e, q1, q2, q⟩ := q1
  subst e
  cases r1 with
  | cons r rr =>
    cases rr with
    | cons r' rr =>
      cases rr with
      | cons r'' rr =>
        cases rr
        obtain ⟨t, rfl⟩ := r
        obtain ⟨t', rfl⟩ := r'
        obtain ⟨t'', rfl⟩ := r''
        refine call_range_3 (by decide) ?_ (.inl (PyProof.noPylong_small (by decide)))
        obtain ⟨sm, sz⟩ := small_02 q1 q2
        refine wpAny_pyIter_range (IsRange.new ..) sm ?_
        have J : Inv X pins σ H1 { s1 with heap := s1.heap.push { cls := .type "range", data := .fields #[.int 0 t, .int j t', .int 2 t''] }, toks := s1.toks } := I1.kept fun b o e => Heap.get?_push_of_some _ e
        refine ⟨_, [_], _, _, H1, rfl, J.kept (t' := s1.toks) fun b o e => Heap.get?_push_of_some _ e, turn_2 (s1.heap.push { cls := .type "range", data := .fields #[.int 0 t, .int j t', .int 2 t''] }).objs.size ((j + 1) / 2).toNat, ?_, fun b hb => ?_, q⟩
        · rw [sz]
          exact Heap.get?_push_size _ rfl
        · have e : b = (s1.heap.push { cls := .type "range", data := .fields #[.int 0 t, .int j t', .int 2 t''] }).objs.size := by simpa using hb
          subst e
          exact J.fpOk (Nat.le_refl _) (J.hok.fresh (Nat.le_refl _))
theorem for_2 {n : Nat} {g : TG} {tb : TS} {D : Ends} {σ : L2.St} {H : Hp} (Pv : Nat → L2.St → Hp → Prop) (h0 : Pv 0 σ H)
    (hs : ∀ i σ H, i < n → Pv i σ H → g (.int (0 + i * 2)) σ H fun σ2 H2 => tb { D with nx := Pv (i + 1), ct := Pv (i + 1), bk := D.nx } σ2 H2) (hd : ∀ σ H, Pv n σ H → D.nx σ H) :
    ∃ W : Nat → Nat → L2.St → Hp → Prop, (∃ m, W 0 m σ H) ∧ ∀ i m σ H, W i m σ H →
      ((It2 n).stop i H ∧ D.nx σ H) ∨ ((It2 n).go i H ∧ ∃ N : L2.St → Hp → Prop, (∀ σ' H', N σ' H' → ∃ m', m' < m ∧ W (i + 1) m' σ' H') ∧ ∀ x H', (It2 n).yld i H x H' → g x σ H' fun σ2 H2 => tb { D with nx := N, ct := N, bk := D.nx } σ2 H2) := by
  refine ⟨fun i m σ H => m = n - i ∧ i ≤ n ∧ Pv i σ H, ⟨n, by simp, Nat.zero_le _, h0⟩, ?_⟩
  rintro i m σ H ⟨rfl, hi, p⟩
  by_cases hlt : i < n
  · refine .inr ⟨hlt, Pv (i + 1), fun σ' H' p' => ⟨n - (i + 1), by omega, rfl, hlt, p'⟩, fun x H' y => ?_⟩
    obtain ⟨e, y⟩ := y
    subst e y
    exact hs i σ _ hlt p
  · have e : i = n := by omega
    subst e
    exact .inl ⟨Nat.le_refl _, hd σ H p⟩
end ST
set_option Elab.async false
set_option linter.all false
set_option maxRecDepth 100000
set_option maxHeartbeats 4000000
namespace ST
variable [TN]
open PySem PySem.Spec PyProof.Rows L2
theorem meets_extendT (l : Addr) (items : Array Value) (n : Nat) (b : Addr) (items2 : Array Value) (n2 : Nat) (dd : Option Addr) (sl : Array (Option Value)) (h0 : ¬(!items.isEmpty && Builtin.List.listTooLong (items.size + items2.size)) = true) (h1 : items.size ≤ sizeLine) (h2 : items.size + items2.size ≤ sizeLine + 1) :
    Meets (Builtin.«list.extend» ⟨[.ref l, .ref b], []⟩) (fun _ R s => s.heap.get? l = some { cls := .type "list", dict := none, data := .seq items n, slots := #[] } ∧ s.heap.get? b = some { cls := .type "tuple", dict := dd, data := .seq items2 n2, slots := sl } ∧
      R (.ok (.ret Value.none)) { s with heap := s.heap.update l (Obj.mapSeq fun x => x ++ items2), toks := s.toks }) :=
  .of_wp fun prog w A R s h => by
    obtain ⟨hp, g, d, tk, os⟩ := s
    obtain ⟨hl, hb, h⟩ := h
    have f1 := AutoSeq1.idx_int
    have f2 := AutoSeq1.sub_tuple_tuple
    have f3 := AutoSeq1.sub_list_list
    have f4 := AutoSeq1.sub_tuple_list
    have f5 := AutoSeq1.sub_list_tuple
    have hz' : (items ++ items2).size ≤ sizeLine + 1 := by rw [Array.size_append]; exact h2
    wp_walk using (wpAny_updateSeq hl rfl (hz := h1) (_hz' := hz')), AutoSeq1.wpAny_loadPart' hl, AutoSeq1.wpAny_loadPart' hb
    exact ⟨_, rfl, h⟩
section
variable {X : Cx}
noncomputable def rExtendT : V → List V → Hp → VK → Prop := fun x vs H Q => ∃ l b xs zs, x = .ref l ∧ vs = [.ref b] ∧ H l = some (.lst xs) ∧ H b = some (.tup zs) ∧ xs.length + zs.length ≤ sizeLine ∧ Q .non (upd H l (.lst (xs ++ zs)))
theorem mt_extendT : MtM X "list.extend" rExtendT := by
  intro pins s σ H x vs v us Q I rx rv h
  obtain ⟨l, b, xs, zs, rfl, rfl, hH, hB, hz, q⟩ := h
  cases rx
  obtain ⟨u, rfl, ru⟩ := rv.one
  cases ru
  obtain ⟨z, its, n, r, hl, e⟩ := I.lstM hH
  obtain ⟨its2, r2, ⟨⟨cl, dd, da, sl⟩, e2, hc2, n2, hd2⟩, _⟩ := I.tuple (SqT.of hB)
  simp only at hc2 hd2
  subst hc2 hd2
  have hl2 := r2.length
  have hsz : its.toArray.size + its2.toArray.size ≤ sizeLine := by rw [List.size_toArray, List.size_toArray]; omega
  have hlong : ¬ (!its.toArray.isEmpty && Builtin.List.listTooLong (its.toArray.size + its2.toArray.size)) = true := by
    rw [notLongL hsz, Bool.and_false]
    exact Bool.false_ne_true
  refine call_meets F.slot_list_extend ⟨_, e, rfl⟩ F.entry_list_extend (F.args_list_extend_2 _ _) (meets_extendT l its.toArray n b its2.toArray n2 dd sl hlong (by rw [List.size_toArray]; omega) (by omega)) ⟨e, e2, ?_⟩
  refine ⟨.non, _, I.lset (its' := its ++ its2) hH e (by simp) (r.append r2) ?_, rfl, q⟩
  rw [List.length_append]
  omega
theorem mt_ext : MtR X "list.extend" (fun x xs H Q => rExtend x xs H Q ∨ rExtendT x xs H Q) := MtR.or mt_extend mt_extendT
theorem tys_of : ∀ {cs : List String} {us : List Value}, Vals (cs.map V.ty) us → us = cs.map Value.type
  | [], _, r => by cases r; rfl
  | c :: cs, _, r => by
    rw [List.map_cons] at r
    cases r with
    | cons r1 r2 =>
      cases (show _ = Value.type c from r1)
      rw [tys_of r2]; rfl
noncomputable def rInstT (K : PySem.W.Frag) : List V → Hp → VK → Prop := fun xs H Q => ∃ (x : V) (tp : Addr) (cs : List String) (ty : Value) (b : Bool), xs = [x, V.ref tp] ∧ H tp = some (.tup (cs.map V.ty)) ∧ TyOf K H x ty ∧ PySem.W.kitAny K ty (cs.map Value.type) = some b ∧ Q (.bl b) H
theorem call_instT : CallR X (.builtin "isinstance") (rInstT X.K) := by
  intro pins s σ H xs us Q I r h
  obtain ⟨x, tp, cs, ty, b, rfl, htp, hty, he, q⟩ := h
  obtain ⟨u, z, rfl, ru, rz⟩ := vals2 r
  cases (show z = Value.ref tp from rz)
  obtain ⟨its, rv, ⟨⟨cl, dd, da, sl⟩, e2, hc2, n2, hd2⟩, _⟩ := I.tuple (SqT.of htp)
  simp only at hc2 hd2
  subst hc2 hd2
  have ei := tys_of rv
  rw [← ei] at he
  have fin : ∀ tk, EP X pins σ Q (.bool b) { s with toks := tk } := fun tk => ⟨.bl b, H, I.tok tk, rfl, q⟩
  cases hty with
  | non => cases (show u = Value.none from ru); exact PySem.W.kia_tup PySem.W.kitx_none I.kIn True.intro e2 he (fun z => nomatch z) fin
  | bl y => cases (show u = Value.bool y from ru); exact PySem.W.kia_tup PySem.W.kitx_bool I.kIn True.intro e2 he (fun z => nomatch z) fin
  | int i => obtain ⟨t, k⟩ := (show ∃ t, u = Value.int i t from ru); cases k; exact PySem.W.kia_tup PySem.W.kitx_int I.kIn True.intro e2 he (fun z => nomatch z) fin
  | str y => obtain ⟨t, k⟩ := (show ∃ t, u = Value.str y t from ru); cases k; exact PySem.W.kia_tup PySem.W.kitx_str I.kIn True.intro e2 he (fun z => nomatch z) fin
  | @lst a xs ea =>
    cases (show u = Value.ref a from ru)
    obtain ⟨_, _, n, _, h1⟩ := (show ObjOk X.prog X.w H s.heap a (.lst xs) from I.hok a _ ea)
    exact PySem.W.kia_tup PySem.W.kitx_list I.kIn ⟨_, h1, rfl⟩ e2 he (fun z => nomatch z) fin
  | @tup a xs ea =>
    cases (show u = Value.ref a from ru)
    obtain ⟨_, _, _, p⟩ := (show ObjOk X.prog X.w H s.heap a (.tup xs) from I.hok a _ ea)
    obtain ⟨o, h1, h2, _⟩ := p
    exact PySem.W.kia_tup PySem.W.kitx_tuple I.kIn ⟨o, h1, h2⟩ e2 he (fun z => nomatch z) fin
  | flt y => obtain ⟨t, k⟩ := (show ∃ t, u = Value.float y t from ru); cases k; exact PySem.W.kia_tup PySem.W.kitx_float I.kIn True.intro e2 he (fun z => nomatch z) fin
  | @frz a ob xs ea =>
    cases (show u = Value.ref a from ru)
    obtain ⟨_, _, _, n, _, h1⟩ := (show ObjOk X.prog X.w H s.heap a (.frz ob (.lst xs)) from I.hok a _ ea)
    exact PySem.W.kia_tup PySem.W.kitx_list I.kIn ⟨_, h1, rfl⟩ e2 he (fun z => nomatch z) fin
  | @dK a kvs ea =>
    cases (show u = Value.ref a from ru)
    obtain ⟨_, _, vs, _, p⟩ := (show ObjOk X.prog X.w H s.heap a (.dK kvs) from I.hok a _ ea)
    obtain ⟨o, es, ep, h1, h2, _⟩ := p
    exact PySem.W.kia_tup PySem.W.kitx_dict I.kIn ⟨o, h1, h2.1⟩ e2 he (fun z => nomatch z) fin
  | @dT a kvs ea =>
    cases (show u = Value.ref a from ru)
    obtain ⟨_, _, xs, _, o, es, ep, h1, h2, _⟩ := (show ObjOk X.prog X.w H s.heap a (.dT kvs) from I.hok a _ ea)
    exact PySem.W.kia_tup PySem.W.kitx_dict I.kIn ⟨o, h1, h2.1⟩ e2 he (fun z => nomatch z) fin
  | @ins a C dx fs ea cl ha hn htk hm =>
    cases (show u = Value.ref a from ru)
    obtain ⟨mA, O, _⟩ := ins_get I.hok ea
    obtain ⟨od, J, _⟩ := O.look
    exact PySem.W.kia_tup (PySem.W.kitx_own (cl.get _) cl.hd ha hn htk hm) I.kIn J e2 he (fun z => nomatch z) fin
end
section
variable {X : Cx}
noncomputable def rIndexS : V → List V → Hp → VK → Prop := fun x vs H Q => ∃ (l : Addr) (xs : List Str) (z : Str) (j : Nat), x = .ref l ∧ vs = [.str z] ∧ H l = some (.lst (xs.map V.str)) ∧ xs[j]? = some z ∧ (∀ (m : Nat) (u : Str), m < j → xs[m]? = some u → u ≠ z) ∧ Q (.int j) H
end
theorem tyIdx : typeOf (.builtin "list.index") = pure (.type "method_descriptor") := by first | rfl | kernel_rfl
theorem kit_tup_list (K : PySem.W.Frag) : PySem.W.kitOne K (.type "tuple") (.type "list") = some false := by kernel_rfl
theorem kit_list_tup (K : PySem.W.Frag) : PySem.W.kitOne K (.type "list") (.type "tuple") = some false := by kernel_rfl
theorem kit_int_bool (K : PySem.W.Frag) : PySem.W.kitOne K (.type "int") (.type "bool") = some false := by kernel_rfl
theorem kit_str_bool (K : PySem.W.Frag) : PySem.W.kitOne K (.type "str") (.type "bool") = some false := by kernel_rfl
theorem any_list (K : PySem.W.Frag) : PySem.W.kitAny K (.type "list") [.type "list", .type "tuple"] = some true := by kernel_rfl
theorem any_tup (K : PySem.W.Frag) : PySem.W.kitAny K (.type "tuple") [.type "list", .type "tuple"] = some true := by kernel_rfl
theorem any_int (K : PySem.W.Frag) : PySem.W.kitAny K (.type "int") [.type "list", .type "tuple"] = some false := by kernel_rfl
theorem any_str (K : PySem.W.Frag) : PySem.W.kitAny K (.type "str") [.type "list", .type "tuple"] = some false := by kernel_rfl
theorem any_non (K : PySem.W.Frag) : PySem.W.kitAny K (.type "NoneType") [.type "list", .type "tuple"] = some false := by kernel_rfl
end ST
set_option Elab.async false
set_option linter.all false
set_option maxRecDepth 100000
set_option maxHeartbeats 4000000
namespace ST
variable [TN]
open PySem PySem.Spec PyProof.Rows L2
structure Blt (mg : Str → Option Value) : Prop where
  len_ : mg "len" = none
  range_ : mg "range" = none
  isinstance_ : mg "isinstance" = none
  sum_ : mg "sum" = none
  sorted_ : mg "sorted" = none
  int_ : mg "int" = none
  str_ : mg "str" = none
  bool_ : mg "bool" = none
  list_ : mg "list" = none
  tuple_ : mg "tuple" = none
  dict_ : mg "dict" = none
  max_ : mg "max" = none
  any_ : mg "any" = none
noncomputable def Callee (P : Program) (w : World) (K : PySem.W.Frag) (mg : Str → Option Value) (base : Heap) (k : Nat) (x : Str) (ps : List Str) (sp : Sp) : Prop :=
  ∃ f fd, FnOk P w K mg base CX0 k f fd ps sp ∧ Binds K fd ps [] ∧ PySem.W.keepIn K (.ref f) = true ∧ mg x = some (.ref f)
theorem Callee.mono {P : Program} {w : World} {K : PySem.W.Frag} {mg : Str → Option Value} {base : Heap} {j k : Nat} {x : Str} {ps : List Str} {sp : Sp} (c : Callee P w K mg base j x ps sp) (h : j ≤ k) : Callee P w K mg base k x ps sp := by
  obtain ⟨f, fd, o, b, kp, m⟩ := c
  exact ⟨f, fd, o.mono h, b, kp, m⟩
section
variable {X : Cx} {j k : Nat} {x : Str} {ps : List Str} {sp : Sp} {e : Expr} {es : List Expr} {t : TA} {p pos : Pos}
theorem pe_callC (c : Callee X.prog X.w X.K X.mg X.base k x ps sp) (hr : Room j X.A) (hg : Gl X x) (ha : PA X (e :: es) t) (hj : k ≤ j := by first | decide | omega) (hdb : (x == ("__debug__" : Str)) = false := by decide)
    (he : starEach (e :: es) X.env = (false, eval e X.env) :: starEach es X.env := by rfl) (hpl : (backTo pos (starEach es X.env)).any (·.1) = false := by rfl) : PE X (.Call (.Name x p) (e :: es) [] pos) (tCall sp [] E0 t) := by
  obtain ⟨f, fd, o, b, kp, m⟩ := c
  exact pe_call o (hr.mono hj) hg m kp b .nil pass0 ha hdb he hpl
theorem pe_callC0 (c : Callee X.prog X.w X.K X.mg X.base k x ps sp) (hr : Room j X.A) (hg : Gl X x) (hj : k ≤ j := by first | decide | omega) (hdb : (x == ("__debug__" : Str)) = false := by decide) : PE X (.Call (.Name x p) [] [] pos) (tCall sp [] E0 tNil) := by
  obtain ⟨f, fd, o, b, kp, m⟩ := c
  exact pe_call0 o (hr.mono hj) hg m kp b .nil pass0 hdb
end
noncomputable def FunAt (K : PySem.W.Frag) (mg : Str → Option Value) (x : Str) (st : Stmt) (ps : List Str) : Prop := ∃ f fd, Fun K x x st f fd ∧ Binds K fd ps [] ∧ mg x = some (.ref f)
theorem FunAt.ok {P : Program} {w : World} {K : PySem.W.Frag} {mg : Str → Option Value} {base : Heap} {x : Str} {st : Stmt} {N ps : List Str} {k : Nat} {sp : Sp} (F : FunAt K mg x st ps) (S : FnScope N ps (defScope st)) (len : ∀ vs H Q E, sp vs H Q E → vs.length = ps.length)
    (hbody : ∀ (f : Addr) (cdv : Value) (A : Around) (outer : List Env) (s : Shared) (H : Hp) (vs : List V) (Q : VK) (E : XK), Room k (A.deeper (envOfC x (defScope st) s.heap.objs.size f cdv)) → sp vs H Q E →
      ∃ t, PSs (cxOf CX0 P w K mg base N x (defScope st) f cdv A outer s H E).nox (defBody st) t ∧ t { nx := fun _ H' => Q .non H', rt := Q } (start N vs) H) : Callee P w K mg base (k + 1) x ps sp := by
  obtain ⟨f, fd, F, b, m⟩ := F
  exact ⟨f, fd, F.ok S len fun cdv A outer s H vs Q E hr h => hbody f cdv A outer s H vs Q E hr h, b, F.kp, m⟩
theorem FunAt.none {P : Program} {w : World} {K : PySem.W.Frag} {mg : Str → Option Value} {base : Heap} {x : Str} {st : Stmt} {ps : List Str} {sp : Sp} (F : FunAt K mg x st ps) (no : ∀ vs H Q E, ¬ sp vs H Q E) : Callee P w K mg base 0 x ps sp := by
  obtain ⟨f, fd, F, b, m⟩ := F
  exact ⟨f, fd, ⟨fun vs H Q E h => absurd h (no vs H Q E), fun A outer s H args us vs Q E _ _ _ _ h => absurd h (no vs H Q E)⟩, b, F.kp, m⟩
theorem funAt_mk {K : PySem.W.Frag} {h : Heap} {mg : Str → Option Value} {x : Str} {st : Stmt} {ps : List Str} {f : Addr} {oc : Value} {od an : Option Addr} {osl : Array (Option Value)} {kV doc pm cdv ct : Value} (X : K.In h) (G : h.Ns mainGlobals mg)
    (a : PySem.W.nsIn K mainGlobals x = some (some (.ref f))) (l : K.lookup f = some ⟨oc, od, .func (PySem.W.fnOf x x (defArgs st) (defBody st) (defScope st) .none kV doc pm an cdv ct), osl⟩) (c : PySem.W.codeIn K cdv x = true) (k : PySem.W.keepIn K (.ref f) = true)
    (b : ∀ (kV doc pm : Value) (an : Option Addr) (cdv ct : Value) (us : List Value), us.length = ps.length → bindArgs (PySem.W.fnOf x x (defArgs st) (defBody st) (defScope st) .none kV doc pm an cdv ct) ⟨us, []⟩ = pure (ps.zip us)) : FunAt K mg x st ps := by
  have F := fun_mk (st := st) l c k
  exact ⟨f, _, F, F.binds b, PySem.W.mg_of X G a⟩
end ST
namespace ST
open PySem L2
noncomputable def top (i : Nat) : Stmt := PySem.Challenge.pw_shapetree_k06_whole_unfit.main.body.getD i (.Pass ⟨0, 0, 0, 0⟩)
noncomputable abbrev sKind : Stmt := top 5
noncomputable abbrev s_is_shape_outside : Stmt := top 7
noncomputable abbrev s_needs_of : Stmt := top 8
noncomputable abbrev s_question_ahead : Stmt := top 9
noncomputable abbrev s_questions_behind : Stmt := top 10
noncomputable abbrev s_row_on_road : Stmt := top 11
noncomputable abbrev s_row_after : Stmt := top 12
noncomputable abbrev s_up_to_settled : Stmt := top 13
noncomputable abbrev s_rows_after : Stmt := top 14
noncomputable abbrev s_strange_atoms : Stmt := top 16
noncomputable abbrev s_value_meeting : Stmt := top 17
noncomputable abbrev s_needs_beside : Stmt := top 18
noncomputable abbrev s_needs_of_both : Stmt := top 19
noncomputable abbrev s_may_be_fit : Stmt := top 20
noncomputable abbrev s_rows_beside : Stmt := top 21
noncomputable abbrev s_weights_of : Stmt := top 22
noncomputable abbrev s_weightiest_question : Stmt := top 23
noncomputable abbrev s_words_by_weight : Stmt := top 24
noncomputable abbrev s_search_past : Stmt := top 25
noncomputable abbrev s_value_past : Stmt := top 26
noncomputable abbrev s_unfit : Stmt := top 27
noncomputable abbrev sWhole : Stmt := top 29
noncomputable abbrev sAt : Stmt := top 30
noncomputable abbrev sSame : Stmt := top 31
noncomputable abbrev sLKind : Stmt := top 32
noncomputable abbrev sLFit : Stmt := top 33
noncomputable abbrev sFirst : Stmt := top 34
noncomputable abbrev sLeaf : Stmt := top 35
noncomputable abbrev sFlat : Stmt := top 36
noncomputable abbrev sFlatRows : Stmt := top 37
noncomputable abbrev sAllV : Stmt := top 38
noncomputable abbrev sIsValue : Stmt := top 39
noncomputable abbrev sMoved : Stmt := top 40
noncomputable abbrev sFar : Stmt := top 41
noncomputable abbrev sWord : Stmt := top 42
noncomputable abbrev sLaw : Stmt := top 43
end ST
set_option Elab.async false
set_option linter.all false
set_option maxRecDepth 100000
namespace L2
open PySem PySem.Spec PyProof.Rows
section
variable {κ : Type} [DecidableEq κ]
noncomputable def valV (kvs : List (κ × V)) (k : κ) : Option V := (kvs.find? fun kv => decide (kv.1 = k)).map (·.2)
noncomputable def putK (kvs : List (κ × V)) (k : κ) (v : V) : List (κ × V) :=
  if (kvs.any fun kv => decide (kv.1 = k)) = true then kvs.map (fun kv => if kv.1 = k then (kv.1, v) else kv) else kvs ++ [(k, v)]
noncomputable def dropK (kvs : List (κ × V)) (k : κ) : List (κ × V) := kvs.filter fun kv => decide (kv.1 ≠ k)
theorem valV_pos {p : κ × V} {r : List (κ × V)} {k : κ} (e : p.1 = k) : valV (p :: r) k = some p.2 := by simp [valV, List.find?_cons, e]
theorem valV_neg {p : κ × V} {r : List (κ × V)} {k : κ} (e : ¬ p.1 = k) : valV (p :: r) k = valV r k := by simp [valV, List.find?_cons, e]
theorem valV_any (k : κ) : ∀ kvs : List (κ × V), (kvs.any fun kv => decide (kv.1 = k)) = (valV kvs k).isSome
  | [] => rfl
  | p :: r => by
    rw [List.any_cons]
    by_cases e : p.1 = k
    · simp only [valV_pos e, decide_eq_true e, Bool.true_or, Option.isSome_some]
    · rw [valV_neg e, decide_eq_false e, Bool.false_or]; exact valV_any k r
theorem valV_map (k j : κ) (y : V) : ∀ kvs : List (κ × V), valV (kvs.map fun kv => if kv.1 = k then (kv.1, y) else kv) j = (valV kvs j).map fun x => if j = k then y else x
  | [] => rfl
  | p :: r => by
    have ih := valV_map k j y r
    rw [List.map_cons]
    by_cases h : p.1 = k
    · rw [if_pos h]
      by_cases e : p.1 = j
      · rw [valV_pos (p := (p.1, y)) e, valV_pos e, Option.map_some, if_pos (e.symm.trans h)]
      · rw [valV_neg (p := (p.1, y)) e, valV_neg e, ih]
    · rw [if_neg h]
      by_cases e : p.1 = j
      · rw [valV_pos (p := p) e, valV_pos e, Option.map_some, if_neg (fun z => h (e.trans z))]
      · rw [valV_neg (p := p) e, valV_neg e, ih]
theorem valV_snoc (k j : κ) (y : V) : ∀ kvs : List (κ × V), valV kvs k = none → valV (kvs ++ [(k, y)]) j = if j = k then some y else valV kvs j
  | [], _ => by
    by_cases e : k = j
    · rw [if_pos e.symm]; exact valV_pos (p := (k, y)) e
    · rw [if_neg (fun z => e z.symm)]; exact valV_neg (p := (k, y)) e
  | p :: r, hn => by
    rw [List.cons_append]
    have hk : ¬ p.1 = k := fun z => by rw [valV_pos z] at hn; cases hn
    rw [valV_neg hk] at hn
    have ih := valV_snoc k j y r hn
    by_cases e : p.1 = j
    · rw [valV_pos e, valV_pos e, if_neg (fun z => hk (e.trans z))]
    · rw [valV_neg e, valV_neg e, ih]
theorem valV_put (kvs : List (κ × V)) (k j : κ) (y : V) : valV (putK kvs k y) j = if j = k then some y else valV kvs j := by
  unfold putK
  by_cases a : (kvs.any fun kv => decide (kv.1 = k)) = true
  · rw [if_pos a, valV_map]
    rw [valV_any] at a
    by_cases e : j = k
    · obtain ⟨x, hx⟩ := Option.isSome_iff_exists.mp a
      rw [if_pos e, e, hx, Option.map_some, if_pos rfl]
    · rw [if_neg e]
      cases valV kvs j with
      | none => rfl
      | some x => rw [Option.map_some, if_neg e]
  · rw [if_neg a]
    refine valV_snoc k j y kvs ?_
    rw [valV_any] at a
    cases q : valV kvs k with
    | none => rfl
    | some x => rw [q] at a; exact (a rfl).elim
theorem length_putK (kvs : List (κ × V)) (k : κ) (v : V) : (putK kvs k v).length ≤ kvs.length + 1 := by
  unfold putK
  split
  · rw [List.length_map]; omega
  · rw [List.length_append, List.length_cons, List.length_nil]; omega
theorem putK_new {kvs : List (κ × V)} {k : κ} (v : V) (h : valV kvs k = none) : putK kvs k v = kvs ++ [(k, v)] := by
  unfold putK
  rw [valV_any, h]
  exact if_neg (by decide)
theorem RelO.isSome_eq {o : Option V} {u : Option Value} (r : RelO o u) : o.isSome = u.isSome := by
  cases o with
  | none => cases u with
    | none => rfl
    | some _ => exact (show False from r).elim
  | some _ => cases u with
    | none => exact (show False from r).elim
    | some _ => rfl
theorem RelO.getD {o : Option V} {u : Option Value} {d : V} {d' : Value} (r : RelO o u) (rd : RelV d d') : RelV (o.getD d) (u.getD d') := by
  cases o with
  | none => cases u with
    | none => exact rd
    | some _ => exact (show False from r).elim
  | some _ => cases u with
    | none => exact (show False from r).elim
    | some _ => exact r
theorem KV.val {kvs : List (κ × V)} {vs : List (κ × Value)} (r : KV kvs vs) (k : κ) : RelO (valV kvs k) (valueAt vs k) := by
  unfold KV at r
  induction r with
  | nil => exact True.intro
  | @cons p q ps qs h t ih =>
    obtain ⟨h1, h2⟩ := h
    by_cases e : p.1 = k
    · have e' : q.1 = k := h1.symm.trans e
      have b : valueAt (q :: qs) k = some q.2 := by simp [valueAt, List.find?_cons, e']
      rw [valV_pos e, b]; exact h2
    · have e' : ¬ q.1 = k := fun z => e (h1.trans z)
      have b : valueAt (q :: qs) k = valueAt qs k := by simp [valueAt, List.find?_cons, e']
      rw [valV_neg e, b]; exact ih
theorem KV.any {kvs : List (κ × V)} {vs : List (κ × Value)} (r : KV kvs vs) (k : κ) : (kvs.any fun kv => decide (kv.1 = k)) = vs.any fun kv => decide (kv.1 = k) := by
  unfold KV at r
  induction r with
  | nil => rfl
  | cons h t ih => rw [List.any_cons, List.any_cons, ih, h.1]
theorem KV.repl {kvs : List (κ × V)} {vs : List (κ × Value)} (r : KV kvs vs) (k : κ) {y : V} {u : Value} (ry : RelV y u) :
    KV (kvs.map fun kv => if kv.1 = k then (kv.1, y) else kv) (vs.map fun kv => if kv.1 = k then (kv.1, u) else kv) := by
  unfold KV at r ⊢
  induction r with
  | nil => exact .nil
  | @cons p q ps qs h t ih =>
    rw [List.map_cons, List.map_cons]
    refine .cons ?_ ih
    obtain ⟨h1, h2⟩ := h
    by_cases e : p.1 = k
    · rw [if_pos e, if_pos (h1.symm.trans e)]; exact ⟨h1, ry⟩
    · rw [if_neg e, if_neg (fun z => e (h1.trans z))]; exact ⟨h1, h2⟩
theorem KV.put {kvs : List (κ × V)} {vs : List (κ × Value)} (r : KV kvs vs) (k : κ) {y : V} {u : Value} (ry : RelV y u) : KV (putK kvs k y) (stored vs k u) := by
  unfold putK stored
  rw [r.any k]
  by_cases e : (vs.any fun kv => decide (kv.1 = k)) = true
  · rw [if_pos e, if_pos e]; exact r.repl k ry
  · rw [if_neg e, if_neg e]; exact Paired.snoc r ⟨rfl, ry⟩
theorem KV.length {kvs : List (κ × V)} {vs : List (κ × Value)} (r : KV kvs vs) : kvs.length = vs.length := Paired.length r
end
theorem kV_is {P : Program} {w : World} {k : Key} {u : Value} (r : RelV (kV k) u) : (mixKind P w).is k u = true := by
  cases k with
  | inl i => obtain ⟨t, e⟩ := (show ∃ t, u = Value.int i t from r); subst e; exact mixKind_int P w i t
  | inr x => obtain ⟨t, e⟩ := (show ∃ t, u = Value.str x t from r); subst e; exact mixKind_str P w x t
theorem items_are {P : Program} {w : World} : ∀ {ks : List Key} {us : List Value}, Vals (ks.map kV) us → ItemsAre (mixKind P w) ks us
  | [], _, r => by rw [List.map_nil] at r; cases r; exact .nil
  | k :: ks, _, r => by
    rw [List.map_cons] at r
    cases r with
    | cons h t => exact .cons (kV_is h) (items_are t)
noncomputable abbrev KT (H : Hp) : List (List Key × V) → List (List Key × Addr × Value) → Prop := Paired fun p q => p.1 = q.1 ∧ H q.2.1 = some (.tup (p.1.map kV)) ∧ RelV p.2 q.2.2
theorem KT.val {H : Hp} {kvs : List (List Key × V)} {xs : List (List Key × Addr × Value)} (r : KT H kvs xs) (k : List Key) : RelO (valV kvs k) ((atKey xs k).map (·.2)) := by
  induction r with
  | nil => exact True.intro
  | @cons p q ps qs h t ih =>
    obtain ⟨h1, _, h2⟩ := h
    by_cases e : p.1 = k
    · have e' : q.1 = k := h1.symm.trans e
      have b : atKey (q :: qs) k = some q.2 := by simp [atKey, List.find?_cons, e']
      rw [valV_pos e, b]; exact h2
    · have e' : ¬ q.1 = k := fun z => e (h1.trans z)
      have b : atKey (q :: qs) k = atKey qs k := by simp [atKey, List.find?_cons, e']
      rw [valV_neg e, b]; exact ih
theorem KT.repl {H : Hp} {kvs : List (List Key × V)} {xs : List (List Key × Addr × Value)} (r : KT H kvs xs) (k : List Key) {y : V} {u : Value} (ry : RelV y u) :
    KT H (kvs.map fun kv => if kv.1 = k then (kv.1, y) else kv) (xs.map (putAt k u)) := by
  induction r with
  | nil => exact .nil
  | @cons p q ps qs h t ih =>
    rw [List.map_cons, List.map_cons]
    refine .cons ?_ ih
    obtain ⟨h1, h2, h3⟩ := h
    unfold putAt
    by_cases e : p.1 = k
    · rw [if_pos e, if_pos (h1.symm.trans e)]; exact ⟨h1, h2, ry⟩
    · rw [if_neg e, if_neg (fun z => e (h1.trans z))]; exact ⟨h1, h2, h3⟩
theorem KT.put {H : Hp} {kvs : List (List Key × V)} {xs : List (List Key × Addr × Value)} (r : KT H kvs xs) (k : List Key) {b : Addr} {y : V} {u : Value} (hb : H b = some (.tup (k.map kV))) (ry : RelV y u) :
    KT H (putK kvs k y) (storedH xs k b u) := by
  have e : (kvs.any fun kv => decide (kv.1 = k)) = (atKey xs k).isSome := by
    rw [valV_any, (r.val k).isSome_eq, Option.isSome_map]
  unfold putK storedH
  rw [e]
  by_cases q : (atKey xs k).isSome = true
  · rw [if_pos q, if_pos q]; exact r.repl k ry
  · rw [if_neg q, if_neg q]; exact Paired.snoc r ⟨rfl, hb, ry⟩
theorem KT.keeps {H H' : Hp} {kvs : List (List Key × V)} {xs : List (List Key × Addr × Value)} (r : KT H kvs xs) (ht : ∀ b ys, H b = some (.tup ys) → H' b = some (.tup ys)) : KT H' kvs xs :=
  Paired.mapP r fun _ _ z => ⟨z.1, ht _ _ z.2.1, z.2.2⟩
section
variable {P : Program} {w : World} {H : Hp} {h : Heap} {a : Addr}
theorem rd_of {u : HO} (ok : HOk P w H h) (e : Rd H a u) : ObjOk P w H h a u := e.ok ok
theorem dk_rd {kvs : List (Key × V)} (ok : HOk P w H h) (e : Rd H a (.dK kvs)) : kvs.length ≤ sizeLine ∧ (a == sysModules) = false ∧ ∃ vs, KV kvs vs ∧ h.DictOf (mixKind P w) a vs :=
  show ObjOk P w H h a (.dK kvs) from rd_of ok e
theorem dk_of {kvs : List (Key × V)} (ok : HOk P w H h) (e : H a = some (.dK kvs)) : kvs.length ≤ sizeLine ∧ (a == sysModules) = false ∧ ∃ vs, KV kvs vs ∧ h.DictOf (mixKind P w) a vs := dk_rd ok (.inl e)
theorem key_of {ks : List Key} (ok : HOk P w H h) (e : H a = some (.tup (ks.map kV))) : (tupleKind (mixKind P w)).is h ks a := by
  obtain ⟨_, its, r, o, h1, h2, n, h3⟩ := (show ObjOk P w H h a (.tup (ks.map kV)) from ok a _ e)
  exact ⟨o, its.toArray, n, h1, h2, h3, by simpa using items_are r⟩
theorem dt_rd {kvs : List (List Key × V)} (ok : HOk P w H h) (e : Rd H a (.dT kvs)) : kvs.length ≤ sizeLine ∧ (a == sysModules) = false ∧
    ∃ xs, KT H kvs xs ∧ h.DictOfH (tupleKind (mixKind P w)) a xs := by
  obtain ⟨z, y, xs, r, o, es, ep, h1, h2, h3, h4, h5⟩ := (show ObjOk P w H h a (.dT kvs) from rd_of ok e)
  refine ⟨z, y, xs, r, o, es, ep, h1, h2, h3, h4, fun x hx => ?_, h5⟩
  have all : ∀ {l : List (List Key × V)} {m : List (List Key × Addr × Value)}, KT H l m → ∀ x ∈ m, (tupleKind (mixKind P w)).is h x.1 x.2.1 := by
    intro l m q
    induction q with
    | nil => intro x hx; exact nomatch hx
    | @cons p q ps qs hq t ih =>
      intro x hx
      rcases List.mem_cons.mp hx with e | hx
      · subst e
        exact key_of ok (by rw [← hq.1]; exact hq.2.1)
      · exact ih x hx
  exact all r x hx
theorem dt_of {kvs : List (List Key × V)} (ok : HOk P w H h) (e : H a = some (.dT kvs)) : kvs.length ≤ sizeLine ∧ (a == sysModules) = false ∧
    ∃ xs, KT H kvs xs ∧ h.DictOfH (tupleKind (mixKind P w)) a xs := dt_rd ok (.inl e)
end
noncomputable def DGet (H : Hp) (a : Addr) (y : V) (r : Option V) : Prop :=
  (∃ kvs k, Rd H a (.dK kvs) ∧ y = kV k ∧ r = valV kvs k) ∨ ∃ kvs k b, Rd H a (.dT kvs) ∧ y = .ref b ∧ H b = some (.tup (k.map kV)) ∧ r = valV kvs k
noncomputable def DPut (H : Hp) (a : Addr) (y v : V) (H' : Hp) : Prop :=
  (∃ kvs k, H a = some (.dK kvs) ∧ y = kV k ∧ kvs.length < sizeLine ∧ H' = upd H a (.dK (putK kvs k v))) ∨
  ∃ kvs k b, H a = some (.dT kvs) ∧ y = .ref b ∧ H b = some (.tup (k.map kV)) ∧ kvs.length < sizeLine ∧ H' = upd H a (.dT (putK kvs k v))
theorem DGet.k {H : Hp} {a : Addr} {kvs : List (Key × V)} {k : Key} (e : H a = some (.dK kvs)) : DGet H a (kV k) (valV kvs k) := .inl ⟨kvs, k, .inl e, rfl, rfl⟩
theorem DGet.t {H : Hp} {a b : Addr} {kvs : List (List Key × V)} {k : List Key} (e : H a = some (.dT kvs)) (eb : H b = some (.tup (k.map kV))) : DGet H a (.ref b) (valV kvs k) := .inr ⟨kvs, k, b, .inl e, rfl, eb, rfl⟩
theorem DPut.k {H : Hp} {a : Addr} {kvs : List (Key × V)} {k : Key} {v : V} (e : H a = some (.dK kvs)) (hl : kvs.length < sizeLine) : DPut H a (kV k) v (upd H a (.dK (putK kvs k v))) := .inl ⟨kvs, k, e, rfl, hl, rfl⟩
theorem DPut.t {H : Hp} {a b : Addr} {kvs : List (List Key × V)} {k : List Key} {v : V} (e : H a = some (.dT kvs)) (eb : H b = some (.tup (k.map kV))) (hl : kvs.length < sizeLine) :
    DPut H a (.ref b) v (upd H a (.dT (putK kvs k v))) := .inr ⟨kvs, k, b, e, rfl, eb, hl, rfl⟩
section
variable {X : Cx} {pins : List (Addr × Obj)} {σ : St} {H : Hp} {s : Shared} {a : Addr} {y v : V} {u r : Value} {o : Option V} {A : Around} {E : Value → Shared → Prop}
theorem Inv.big (I : Inv X pins σ H s) : sysModules < s.heap.objs.size := by
  have h : mainGlobals < s.heap.objs.size := (I.mod.glob.keeps I.bk).lt
  exact Nat.lt_trans (by decide) h
theorem d_getItem {Q : Value → Shared → Prop} (hu : A.units + 1 < cLine) (I : Inv X pins σ H s) (g : DGet H a y (some v)) (ry : RelV y u) (h : ∀ w' s', Inv X pins σ H s' → RelV v w' → Q w' s') :
    wpAny (model X.prog X.w) A (getItem (.ref a) u) Q E s := by
  rcases g with ⟨kvs, k, e, ey, l⟩ | ⟨kvs, k, b, e, ey, eb, l⟩
  · subst ey
    obtain ⟨z, hd, vs, rel, dd⟩ := dk_rd I.hok e
    obtain ⟨w', hw, rw'⟩ := RelO.some_of (v := v) (o := valueAt vs k) (by rw [l]; exact rel.val k)
    exact wpAny_getItem_of (kV_is ry) dd.mapOf hw (h w' _ (I.tok _) rw')
  · subst ey
    cases (show u = Value.ref b from ry)
    obtain ⟨z, hd, xs, rel, dd⟩ := dt_rd I.hok e
    obtain ⟨w', hw, rw'⟩ := RelO.some_of (v := v) (o := (atKey xs k).map (·.2)) (by rw [l]; exact rel.val k)
    obtain ⟨p, hp, hp2⟩ := Option.map_eq_some_iff.mp hw
    refine wpAny_getItem_heap (tupleKind_room_in1 hu) (key_of I.hok eb) dd hp ?_
    rw [hp2]
    exact h w' _ (I.tok _) rw'
theorem d_in {Q : Value → Shared → Prop} (hu : A.units + 1 < cLine) (I : Inv X pins σ H s) (g : DGet H a y o) (ry : RelV y u) (h : ∀ s', Inv X pins σ H s' → Q (.bool o.isSome) s') :
    wpAny (model X.prog X.w) A (compareOp .In u (.ref a)) Q E s := by
  rcases g with ⟨kvs, k, e, ey, l⟩ | ⟨kvs, k, b, e, ey, eb, l⟩
  · subst ey
    obtain ⟨z, hd, vs, rel, dd⟩ := dk_rd I.hok e
    refine wpAny_in_of (kV_is ry) hd dd.mapOf ?_
    rw [← (rel.val k).isSome_eq, ← l]
    exact h _ (I.tok _)
  · subst ey
    cases (show u = Value.ref b from ry)
    obtain ⟨z, hd, xs, rel, dd⟩ := dt_rd I.hok e
    refine wpAny_in_heap (tupleKind_room_in1 hu) (key_of I.hok eb) hd dd ?_
    have q := (rel.val k).isSome_eq
    rw [Option.isSome_map] at q
    rw [← q, ← l]
    exact h _ (I.tok _)
theorem d_write {h' : Heap} {t' : Nat} {ob : HO} (I : Inv X pins σ H s) (mu : Mut (H a)) (hs : Heap.SameBut a s.heap h') (he : ∃ q, h'.get? a = some q) (new : ObjOk X.prog X.w (upd H a ob) h' a ob) :
    Inv X pins σ (upd H a ob) { s with heap := h', toks := t' } :=
  I.write (x := a) (e := a) mu (.inl rfl) (fun b q hb z => (hs.2 b hb).trans z) he new
theorem dk_new {P : Program} {w : World} {H' : Hp} {h' : Heap} {kvs : List (Key × V)} {vs : List (Key × Value)} (z : kvs.length ≤ sizeLine) (hd : (a == sysModules) = false) (rel : KV kvs vs) (dd : h'.DictOf (mixKind P w) a vs) :
    ObjOk P w H' h' a (.dK kvs) := ⟨z, hd, vs, rel, dd⟩
theorem d_setItem {H' : Hp} {Q : Unit → Shared → Prop} (hu : A.units + 1 < cLine) (I : Inv X pins σ H s) (g : DPut H a y v H') (ry : RelV y u) (rv : RelV v r) (h : ∀ s', Inv X pins σ H' s' → Q () s') :
    wpAny (model X.prog X.w) A (setItem (.ref a) u r) Q E s := by
  rcases g with ⟨kvs, k, e, ey, l, eH⟩ | ⟨kvs, k, b, e, ey, eb, l, eH⟩
  · subst ey eH
    obtain ⟨z, hd, vs, rel, dd⟩ := dk_of I.hok e
    have hz : vs.length ≤ sizeLine := by rw [← rel.length]; exact z
    have hl : (putK kvs k v).length ≤ sizeLine := by have := length_putK kvs k v; omega
    refine wpAny_setItem_pairs (hsz := hz) (kV_is ry) dd fun h' dd' hs => h _ ?_
    have he : ∃ q, h'.get? a = some q := let ⟨q, _, _, hq, _⟩ := dd'; ⟨q, hq⟩
    exact d_write I (by rw [e]; exact True.intro) hs he (dk_new hl hd (rel.put k rv) dd')
  · subst ey eH
    cases (show u = Value.ref b from ry)
    obtain ⟨z, hd, xs, rel, dd⟩ := dt_of I.hok e
    have hz : xs.length ≤ sizeLine := by rw [← Paired.length rel]; exact z
    have hl : (putK kvs k v).length ≤ sizeLine := by have := length_putK kvs k v; omega
    refine wpAny_setItem_heap (hsz := hz) (tupleKind_room_in1 hu) (key_of I.hok eb) dd fun h' dd' hs => h _ ?_
    obtain ⟨q, es, ep, hq, h2, h3, h4, _, h5⟩ := dd'
    refine d_write I (by rw [e]; exact True.intro) hs ⟨q, hq⟩ ⟨hl, hd, _, (rel.put k eb rv).keeps fun c ys ec => ?_, q, es, ep, hq, h2, h3, h4, h5⟩
    rw [upd_ne (ne_of ec e (fun z => nomatch z))]
    exact ec
end
section
variable {X : Cx} {pins : List (Addr × Obj)} {σ : St} {H : Hp} {s : Shared} {a : Addr} {kvs : List (Key × V)} {k : Key} {u : Value} {A : Around} {E : Value → Shared → Prop}
end
noncomputable def NoSl (i : Expr) : Prop := ∀ ov iv, subscripted i false ov iv = operate [ov, iv] (getItem ov iv)
theorem subD_of {prog : Program} {w : World} {A : Around} {E : Value → Shared → Prop} {s : Shared} {env : Env} {value slice : Expr} {pos : Pos} {T id : String} {Q : Value → Shared → Prop}
    (hl : typeLookup (.type T) "__getitem__" = pure (some (.builtin id))) (hs : NoSl slice)
    (h : wpAny (model prog w) A (eval value env) (fun o s₁ => wpAny (model prog w) A (eval slice env) (fun i s₂ => s₂.TypeIs o T ∧ wpAny (model prog w) A (getItem o i) Q E s₂) E s₁) E s) :
    wpAny (model prog w) A (eval (.Subscript value slice pos) env) Q E s := by
  refine Subscript_ (wpAny_mono h (fun o s₁ h₁ => wpAny_mono h₁ (fun i s₂ h₂ => ?_) fun _ _ x => x) fun _ _ x => x)
  obtain ⟨hT, h₂⟩ := h₂
  unfold subscriptTail
  refine wpAny_bind ?_
  rw [getitemInPython_of_ne hT.not_modules]
  refine wpAny_bind (wpAny_specialOf hT hl ?_)
  have fin : wpAny (model prog w) A (subscripted slice false o i) (fun r s₃ => wpAny (model prog w) A (letTemporaryGo value o r >>= fun _ => pure r) Q E s₃) E s₂ := by
    rw [hs o i]
    exact wpAny_operating (wpAny_mono h₂ (fun r s₃ h₃ => wpAny_bind (wpAny_letTemporaryGo (wpAny_pure h₃))) fun _ _ x => x)
  first
    | exact wpAny_pure (wpAny_bind fin)
    | exact wpAny_bind (wpAny_pure (wpAny_bind fin))
    | exact wpAny_bind fin
theorem dict_typeIs {X : Cx} {pins : List (Addr × Obj)} {σ : St} {H : Hp} {s : Shared} {a : Addr} {y : V} {o : Option V} (I : Inv X pins σ H s) (g : DGet H a y o) : s.TypeIs (.ref a) "dict" := by
  rcases g with ⟨kvs, k, e, _, _⟩ | ⟨kvs, k, b, e, _, _, _⟩
  · obtain ⟨_, _, vs, _, dd⟩ := dk_rd I.hok e
    exact dd.typeIs
  · obtain ⟨_, _, xs, _, dd⟩ := dt_rd I.hok e
    exact dd.typeIs
noncomputable def tDGet (td ty : TE) : TE := fun σ H Q => td σ H fun x H1 => ty σ H1 fun y H2 => ∃ a v, x = .ref a ∧ DGet H2 a y (some v) ∧ Q v H2
noncomputable def tDIn (ty td : TE) : TE := fun σ H Q => ty σ H fun y H1 => td σ H1 fun x H2 => ∃ a o, x = .ref a ∧ DGet H2 a y o ∧ Q (.bl o.isSome) H2
noncomputable def tDNotIn (ty td : TE) : TE := fun σ H Q => ty σ H fun y H1 => td σ H1 fun x H2 => ∃ a o, x = .ref a ∧ DGet H2 a y o ∧ Q (.bl (!o.isSome)) H2
noncomputable def sDPut (td ty tv : TE) : TS := fun D σ H => tv σ H fun v H1 => td σ H1 fun x H2 => ty σ H2 fun y H3 => ∃ a H4, x = .ref a ∧ DPut H3 a y v H4 ∧ D.nx σ H4
noncomputable def sDAug (td ty tv : TE) (rd : V → V → Hp → VK → Prop) : TS := fun D σ H => td σ H fun x H1 => ty σ H1 fun y H2 => ∃ a v, x = .ref a ∧ DGet H2 a y (some v) ∧
  tv σ H2 fun y2 H3 => rd v y2 H3 fun z H4 => ∃ H5, DPut H4 a y z H5 ∧ D.nx σ H5
noncomputable def sDDel (td ty : TE) : TS := fun D σ H => td σ H fun x H1 => ty σ H1 fun y H2 => ∃ a kvs k, x = .ref a ∧ H2 a = some (.dK kvs) ∧ y = kV k ∧ (valV kvs k).isSome = true ∧ D.nx σ (upd H2 a (.dK (dropK kvs k)))
section
variable {X : Cx} {o i e value : Expr} {pos pos' tpos : Pos} {td ty tv : TE}
theorem pe_dget (hu : X.A.units + 1 < cLine) (ho : PE X o td) (hi : PE X i ty) (hs : NoSl i) : PE X (.Subscript o i pos) (tDGet td ty) := by
  intro pins s σ H Q I h
  refine subD_of PySem.F.slot_dict_getitem.lookup hs (thn (ho pins s σ H _ I h) fun u s1 ⟨x, H1, I1, rx, q1⟩ => thn (hi pins s1 σ H1 _ I1 q1) fun iv s2 ⟨y, H2, I2, ry, a, v, ex, g, q2⟩ => ?_)
  subst ex
  obtain rfl : u = Value.ref a := rx
  exact ⟨dict_typeIs I2 g, d_getItem hu I2 g ry fun w' s3 I3 rw' => ⟨v, H2, I3, rw', q2⟩⟩
theorem pc_din (hu : X.A.units + 1 < cLine) (hi : PE X i ty) (ho : PE X o td) : PC X .In i o (tDIn ty td) := by
  intro pins s σ H Q I h
  refine thn (hi pins s σ H _ I h) fun iv s1 ⟨y, H1, I1, ry, q1⟩ => thn (ho pins s1 σ H1 _ I1 q1) fun u s2 ⟨x, H2, I2, rx, a, ov, ex, g, q2⟩ => ?_
  subst ex
  obtain rfl : u = Value.ref a := rx
  exact d_in hu I2 g ry fun s3 I3 => ⟨.bl ov.isSome, H2, I3, rfl, q2⟩
theorem ps_dput (hu : X.A.units + 1 < cLine) (ho : PE X o td) (hi : PE X i ty) (hv : PE X value tv) (hs : swapsWith value (some (.Subscript o i pos')) pos.line X.env = pure false) :
    PS X (.Assign [.Subscript o i pos'] value pos) (sDPut td ty tv) := by
  intro pins s σ H D I h
  refine wpAny_Assign_Subscript (thn (hv pins s σ H _ I h) fun r s1 ⟨v, H1, I1, rv, q1⟩ => thn (ho pins s1 σ H1 _ I1 q1) fun u s2 ⟨x, H2, I2, rx, q2⟩ => thn (hi pins s2 σ H2 _ I2 q2) fun iv s3 ⟨y, H3, I3, ry, a, H4, ex, g, q3⟩ => ?_) hs
  subst ex
  obtain rfl : u = Value.ref a := rx
  exact d_setItem hu I3 g ry rv fun s4 I4 => ⟨σ, H4, I4, q3⟩
end
theorem dk_empty {P : Program} {w : World} {H : Hp} (h : Heap) (hb : sysModules < h.objs.size) : ObjOk P w H (h.push { cls := .type "dict", data := .dict #[] }) h.objs.size (.dK []) :=
  ⟨Nat.zero_le _, beq_eq_false_iff_ne.mpr (Ne.symm (Nat.ne_of_lt hb)), [], .nil, Heap.DictOf.new h⟩
theorem dt_empty {P : Program} {w : World} {H : Hp} (h : Heap) (hb : sysModules < h.objs.size) : ObjOk P w H (h.push { cls := .type "dict", data := .dict #[] }) h.objs.size (.dT []) :=
  ⟨Nat.zero_le _, beq_eq_false_iff_ne.mpr (Ne.symm (Nat.ne_of_lt hb)), [], .nil, _, #[], 0, Heap.get?_push_size _ rfl, ⟨rfl, rfl, rfl⟩, rfl, rfl, List.nodup_nil⟩
noncomputable def tDNewK : TE := fun _ H Q => ∀ p, H p = none → Q (.ref p) (upd H p (.dK []))
noncomputable def tDNewT : TE := fun _ H Q => ∀ p, H p = none → Q (.ref p) (upd H p (.dT []))
section
variable {X : Cx} {pos : Pos}
theorem pe_dnewK : PE X (.Dict [] [] pos) tDNewK := fun pins s σ H Q I h =>
  wpAny_Dict_empty ⟨.ref s.heap.objs.size, _, I.laid (a := s.heap.objs.size) (o := .dK []) (t' := s.toks) (fun _ _ q => Heap.get?_push_of_some _ q) (Nat.le_refl _) (dk_empty s.heap I.big), rfl, h _ (I.hok.fresh (Nat.le_refl _))⟩
theorem pe_dnewT : PE X (.Dict [] [] pos) tDNewT := fun pins s σ H Q I h =>
  wpAny_Dict_empty ⟨.ref s.heap.objs.size, _, I.laid (a := s.heap.objs.size) (o := .dT []) (t' := s.toks) (fun _ _ q => Heap.get?_push_of_some _ q) (Nat.le_refl _) (dt_empty s.heap I.big), rfl, h _ (I.hok.fresh (Nat.le_refl _))⟩
end
noncomputable def tPairs : List (TE × TE) → St → Hp → (List (V × V) → Hp → Prop) → Prop
  | [], _, H, Q => Q [] H
  | (tk, tv) :: r, σ, H, Q => tk σ H fun x H1 => tv σ H1 fun y H2 => tPairs r σ H2 fun ps H3 => Q ((x, y) :: ps) H3
noncomputable abbrev VV : List (V × V) → List (Value × Value) → Prop := Paired fun p q => RelV p.1 q.1 ∧ RelV p.2 q.2
noncomputable def PPs (X : Cx) (pos : Pos) (keys : List (Option Expr)) (values : List Expr) (trs : List (TE × TE)) : Prop :=
  ∀ (pins : List (Addr × Obj)) (s : Shared) (σ : St) (H : Hp) (Q : List (V × V) → Hp → Prop), Inv X pins σ H s → tPairs trs σ H Q →
    wpAny (model X.prog X.w) X.A (evalPairs (pairTrees keys values X.env pos)) (fun vs s' => ∃ ps H', Inv X pins σ H' s' ∧ VV ps vs ∧ Q ps H') X.xe s
theorem pps_nil {X : Cx} {pos : Pos} : PPs X pos [] [] [] := fun pins s σ H Q I h => pairTrees_nil_walk ⟨[], H, I, .nil, h⟩
theorem pps_cons {X : Cx} {pos : Pos} {k v : Expr} {ks : List (Option Expr)} {vs : List Expr} {tk tv : TE} {trs : List (TE × TE)} (hk : PE X k tk) (hv : PE X v tv) (hr : PPs X pos ks vs trs) :
    PPs X pos (some k :: ks) (v :: vs) ((tk, tv) :: trs) := fun pins s σ H Q I h =>
  pairTrees_cons_walk (thn (hk pins s σ H _ I h) fun u s1 ⟨x, H1, I1, rx, q1⟩ => thn (hv pins s1 σ H1 _ I1 q1) fun w2 s2 ⟨y, H2, I2, ry, q2⟩ =>
    thn (hr pins s2 σ H2 _ I2 q2) fun ws s3 ⟨ps, H3, I3, rel, q3⟩ => ⟨(x, y) :: ps, H3, I3, .cons ⟨rx, ry⟩ rel, q3⟩)
noncomputable def mergeK (kvs more : List (Key × V)) : List (Key × V) := more.foldl (fun acc kv => putK acc kv.1 kv.2) kvs
theorem KV.merge : ∀ {more : List (Key × V)} {rs : List (Key × Value)} {kvs : List (Key × V)} {vs : List (Key × Value)}, KV more rs → KV kvs vs → KV (mergeK kvs more) (merged vs rs) := by
  intro more rs kvs vs r
  unfold KV at r
  induction r generalizing kvs vs with
  | nil => intro q; exact q
  | @cons p q ps qs h t ih =>
    intro r0
    have e : KV (putK kvs p.1 p.2) (stored vs q.1 q.2) := by
      have := r0.put p.1 h.2
      rw [← h.1]; exact this
    exact ih e
theorem length_mergeK : ∀ (more kvs : List (Key × V)), (mergeK kvs more).length ≤ kvs.length + more.length
  | [], kvs => by show kvs.length ≤ kvs.length + 0; omega
  | p :: r, kvs => by
    have h1 := length_mergeK r (putK kvs p.1 p.2)
    have h2 := length_putK kvs p.1 p.2
    show (mergeK (putK kvs p.1 p.2) r).length ≤ _
    rw [List.length_cons]; omega
theorem carries_of {P : Program} {w : World} : ∀ {kvs : List (Key × V)} {ws : List (Value × Value)}, VV (kvs.map fun kv => (kV kv.1, kv.2)) ws → ∃ rs, Carries (mixKind P w) ws rs ∧ KV kvs rs
  | [], _, r => by rw [List.map_nil] at r; cases r; exact ⟨[], True.intro, .nil⟩
  | p :: kvs, _, r => by
    rw [List.map_cons] at r
    cases r with
    | @cons a b as bs h t =>
      obtain ⟨rs, c, q⟩ := carries_of (P := P) (w := w) t
      obtain ⟨b1, b2⟩ := b
      exact ⟨(p.1, b2) :: rs, ⟨kV_is h.1, rfl, c⟩, .cons ⟨rfl, h.2⟩ q⟩
noncomputable def tDisp (trs : List (TE × TE)) : TE := fun σ H Q => ∀ p, H p = none → tPairs trs σ (upd H p (.dK [])) fun ps H2 => H2 p = some (.dK []) ∧ ∃ kvs : List (Key × V), ps = kvs.map (fun kv => (kV kv.1, kv.2)) ∧ kvs.length ≤ 15 ∧ Q (.ref p) (upd H2 p (.dK (mergeK [] kvs)))
theorem pe_disp {X : Cx} {pos : Pos} {keys : List (Option Expr)} {values : List Expr} {trs : List (TE × TE)} (h : PPs X pos keys values trs) (hall : keys.all (·.isSome) = true) (hl : keys.length = values.length) (h0 : keys ≠ [])
    (h15 : keys.length ≤ 15) : PE X (.Dict keys values pos) (tDisp trs) := by
  intro pins s σ H Q I q
  have hn := I.hok.fresh (Nat.le_refl s.heap.objs.size)
  have I1 := I.laid (a := s.heap.objs.size) (o := .dK []) (h' := s.heap.push { cls := .type "dict", data := .dict #[] }) (t' := s.toks) (fun _ _ q => Heap.get?_push_of_some _ q) (Nat.le_refl _) (dk_empty s.heap I.big)
  refine wpAny_Dict_walk (knd := mixKind X.prog X.w) hall hl h0 h15 (thn (h pins _ σ _ _ I1 (q _ hn)) fun ws s2 ⟨ps, H2, I2, rel, e, kvs, ep, lk, q2⟩ => ?_)
  subst ep
  obtain ⟨rs, c, rk⟩ := carries_of (P := X.prog) (w := X.w) rel
  obtain ⟨z, hd, vs0, r0, dd⟩ := dk_of I2.hok e
  cases r0
  refine ⟨rs, c, dd, fun h' dd' hs => ⟨.ref s.heap.objs.size, _, ?_, rfl, q2⟩⟩
  have hz : (mergeK [] kvs).length ≤ sizeLine := by
    have h1 := length_mergeK kvs []
    rw [List.length_nil] at h1
    rw [sizeLine_eq]; omega
  have he : ∃ q, h'.get? s.heap.objs.size = some q := let ⟨q, _, _, hq, _⟩ := dd'; ⟨q, hq⟩
  exact d_write I2 (by rw [e]; exact True.intro) hs he (dk_new hz hd (rk.merge .nil) dd')
structure M1 (X : Cx) (o : Expr) (m : Str) (apos : Pos) (e : Expr) (cpos : Pos) : Prop where
  base : attributeBase o m X.env (eval o X.env) = eval o X.env
  few : ((backTo cpos (starEach [e] X.env)).all (fun x => !x.1) && (backToKw cpos (keywordEach [] X.env)).all (fun x => x.1.isSome)
    && decide (([e] : List Expr).length + ([] : List Keyword).length + (if ([] : List Keyword).isEmpty then 0 else 1) < 30)) = true
  line : (apos.endLine == cpos.line) = true
  trees : backTo cpos (starEach [e] X.env) = [(false, eval e X.env)]
structure M2 (X : Cx) (o : Expr) (m : Str) (apos : Pos) (e f : Expr) (cpos : Pos) : Prop where
  base : attributeBase o m X.env (eval o X.env) = eval o X.env
  few : ((backTo cpos (starEach [e, f] X.env)).all (fun x => !x.1) && (backToKw cpos (keywordEach [] X.env)).all (fun x => x.1.isSome)
    && decide (([e, f] : List Expr).length + ([] : List Keyword).length + (if ([] : List Keyword).isEmpty then 0 else 1) < 30)) = true
  line : (apos.endLine == cpos.line) = true
  trees : backTo cpos (starEach [e, f] X.env) = [(false, eval e X.env), (false, eval f X.env)]
noncomputable def IsD (H : Hp) (a : Addr) : Prop := (∃ kvs, Rd H a (.dK kvs)) ∨ ∃ kvs, Rd H a (.dT kvs)
section
variable {X : Cx} {pins : List (Addr × Obj)} {σ : St} {H : Hp} {s : Shared} {a : Addr} {y d : V} {u r : Value} {o : Option V} {A : Around} {E : Value → Shared → Prop}
theorem d_get2 {Q : Value → Shared → Prop} (hu : A.units + 1 < cLine) (I : Inv X pins σ H s) (g : DGet H a y o) (ry : RelV y u) (rd : RelV d r) (h : ∀ w' s', Inv X pins σ H s' → RelV (o.getD d) w' → Q w' s') :
    wpAny (model X.prog X.w) A (call (.builtin "dict.get") [.ref a, u, r]) Q E s := by
  rcases g with ⟨kvs, k, e, ey, l⟩ | ⟨kvs, k, b, e, ey, eb, l⟩
  · subst ey
    obtain ⟨z, hd, vs, rel, dd⟩ := dk_rd I.hok e
    refine call_meetsIn PySem.F.slot_dict_get dd.typeIs PySem.F.entry_dict_get (PySem.F.args_dict_get_3 _ _ _) (meets_dict_get_default (mixKind X.prog X.w) a (kV_is ry) hd r) ⟨_, dd.mapOf, h _ _ (I.tok _) ?_⟩
    rw [l]
    exact (rel.val k).getD rd
  · subst ey
    cases (show u = Value.ref b from ry)
    obtain ⟨z, hd, xs, rel, dd⟩ := dt_rd I.hok e
    refine call_meetsIn PySem.F.slot_dict_get dd.typeIs PySem.F.entry_dict_get (PySem.F.args_dict_get_3 _ _ _) (meetsH_dict_get_default (tupleKind (mixKind X.prog X.w)) a b hd r) ⟨tupleKind_room_in1 hu, k, xs, key_of I.hok eb, dd, h _ _ (I.tok _) ?_⟩
    rw [l]
    exact (rel.val k).getD rd
end
noncomputable def tDGet1 (td ty : TE) : TE := fun σ H Q => td σ H fun x H1 => ∃ a, x = .ref a ∧ IsD H1 a ∧ ty σ H1 fun y H2 => ∃ o, DGet H2 a y o ∧ Q (o.getD .non) H2
noncomputable def tDGet2 (td ty tx : TE) : TE := fun σ H Q => td σ H fun x H1 => ∃ a, x = .ref a ∧ IsD H1 a ∧ ty σ H1 fun y H2 => tx σ H2 fun z H3 => ∃ o, DGet H3 a y o ∧ Q (o.getD z) H3
noncomputable def tDPop1 (td ty : TE) : TE := fun σ H Q => td σ H fun x H1 => ∃ a, x = .ref a ∧ IsD H1 a ∧ ty σ H1 fun y H2 => ∃ kvs k v, H2 a = some (.dK kvs) ∧ y = kV k ∧ valV kvs k = some v ∧ Q v (upd H2 a (.dK (dropK kvs k)))
noncomputable def tDPop2 (td ty tx : TE) : TE := fun σ H Q => td σ H fun x H1 => ∃ a, x = .ref a ∧ IsD H1 a ∧ ty σ H1 fun y H2 => tx σ H2 fun z H3 => ∃ kvs k, H3 a = some (.dK kvs) ∧ y = kV k ∧
  (∀ v, valV kvs k = some v → Q v (upd H3 a (.dK (dropK kvs k)))) ∧ (valV kvs k = none → Q z H3)
section
variable {X : Cx} {o e f : Expr} {apos cpos : Pos} {td ty tx : TE}
end
section
variable {X : Cx} {pins : List (Addr × Obj)} {σ : St} {H : Hp} {s : Shared} {a : Addr} {kvs : List (Key × V)} {A : Around} {E : Value → Shared → Prop}
end
section
variable {X : Cx} {pins : List (Addr × Obj)} {σ : St} {H : Hp} {s : Shared} {a : Addr} {y : V} {u : Value} {A : Around} {E : Value → Shared → Prop}
end
end L2
namespace L2
open PySem PySem.Spec PyProof.Rows
section
variable {κ : Type} [DecidableEq κ]
theorem valV_not {kvs : List (κ × V)} {k : κ} (h : valV kvs k = none) : ¬ k ∈ kvs.map (·.1) := by
  intro m
  obtain ⟨p, hp, e⟩ := List.mem_map.mp m
  have q : (kvs.any fun kv => decide (kv.1 = k)) = true := List.any_eq_true.mpr ⟨p, hp, decide_eq_true e⟩
  rw [valV_any, h] at q
  exact absurd q (by simp)
theorem valV_in {kvs : List (κ × V)} {k : κ} {v : V} (h : valV kvs k = some v) : k ∈ kvs.map (·.1) := by
  have q : (kvs.any fun kv => decide (kv.1 = k)) = true := by
    rw [valV_any, h]
    all_goals rfl
  obtain ⟨p, hp, e⟩ := List.any_eq_true.mp q
  exact List.mem_map.mpr ⟨p, hp, of_decide_eq_true e⟩
theorem nd_snoc : ∀ {l : List κ} {k : κ}, l.Nodup → ¬ k ∈ l → (l ++ [k]).Nodup
  | [], k, _, _ => by simp
  | a :: r, k, h, hk => by
    obtain ⟨h1, h2⟩ := List.nodup_cons.mp h
    show (a :: (r ++ [k])).Nodup
    refine List.nodup_cons.mpr ⟨fun m => ?_, nd_snoc h2 fun m => hk (List.mem_cons.mpr (Or.inr m))⟩
    rcases List.mem_append.mp m with q | q
    · exact h1 q
    · exact hk (List.mem_cons.mpr (Or.inl (List.mem_singleton.mp q).symm))
end
end L2
set_option Elab.async false
set_option linter.all false
set_option maxRecDepth 100000
set_option maxHeartbeats 4000000
namespace ST
open PySem PySem.Spec PyProof.Rows L2
section
variable {prog : Program} {w : World}
noncomputable abbrev QK := Str × List Int
noncomputable def IsQK (prog : Program) (w : World) (h : Heap) (q : QK) (a : Addr) : Prop :=
  ∃ o t b n, h.get? a = some o ∧ o.cls = .type "tuple" ∧ o.data = .seq #[.str q.1 t, .ref b] n ∧ IsTupleKey (intKind prog w) h q.2 b
noncomputable def qHash (prog : Program) (w : World) (q : QK) : Int := reduceHash (Builtin.Tuple.tupleHashOf [hashStr w q.1, tupleKeyHash (intKind prog w) q.2])
theorem IsQK.ty {s : Shared} {q : QK} {a : Addr} (x : IsQK prog w s.heap q a) : s.TypeIs (.ref a) "tuple" := by
  obtain ⟨o, u, b, n, e, c, _⟩ := x
  exact ⟨o, e, c⟩
theorem IsQK.inj {h : Heap} {a : Addr} {x y : QK} (hx : IsQK prog w h x a) (hy : IsQK prog w h y a) : x = y := by
  obtain ⟨o, u, b, n, e, c, d, k2⟩ := hx
  obtain ⟨o', u', b', n', e', c', d', k2'⟩ := hy
  have z : o = o' := Option.some.inj (e.symm.trans e')
  subst z
  rw [d] at d'
  injection d' with z _
  have z' : [Value.str x.1 u, Value.ref b] = [Value.str y.1 u', Value.ref b'] := by injection z
  simp only [List.cons.injEq, Value.ref.injEq, and_true, Value.str.injEq] at z'
  obtain ⟨⟨z1, _⟩, rfl⟩ := z'
  exact Prod.ext z1 (k2.inj k2')
theorem IsQK.kept {h h' : Heap} {q : QK} {a d : Addr} {o : Obj} {es ep} (x : IsQK prog w h q a) (ho : h.get? d = some o) (hd : o.data = .dict es ep) (hs : Heap.SameBut d h h') : IsQK prog w h' q a := by
  obtain ⟨o', u, b, n, e, c, d', k2⟩ := x
  have hne : a ≠ d := fun z => by
    subst z
    rw [e] at ho
    cases ho
    rw [d'] at hd
    cases hd
  exact ⟨o', u, b, n, (hs.2 a hne).trans e, c, d', k2.keeps ho hd hs⟩
variable {A : Around} {E : Value → Shared → Prop} {s : Shared}
theorem qk_hash {q : QK} {a : Addr} {Q : Int → Shared → Prop} (hu : A.units + 1 < cLine) (hk : IsQK prog w s.heap q a) (h : Q (qHash prog w q) { s with toks := s.toks + (q.2.length + 3) }) :
    wpAny (model prog w) A (pyHash (.ref a)) Q E s := by
  have hT := hk.ty
  obtain ⟨o, u, b, n, e, c, d, k2⟩ := hk
  unfold pyHash pyHashByItsType
  refine wpAny_bind (wpAny_cRoomFor_or (.inr (by omega)) (wpAny_bind (wpAny_specialOf hT F.slot_tuple_hash.lookup ?_)))
  rw [show (some (Value.builtin "tuple.__hash__") == some Value.none) = false from rfl]
  simp only [Bool.false_eq_true, if_false]
  refine wpAny_bind (wpAny_specialOf hT F.slot_tuple_hash.lookup ?_)
  refine wpAny_bind (wpAny_callSpecialIfBoundUnlessNone?_slot hT F.slot_tuple_hash (wpAny_call_entry F.slot_tuple_hash hT F.entry_tuple_hash ?_ (F.args_tuple_hash_1 _)))
  show wpAny _ _ (Builtin.Tuple.tupleItemsOf (.ref a) >>= _) _ _ s
  refine wpAny_bind (wpAny_tupleItemsOf e d (wpAny_bind ?_))
  rw [← Array.forIn_toList, List.forIn_cons]
  refine wpAny_bind (wpAny_bind ((mixKind prog w).pyHash (mixKind_str prog w q.1 u) ?_))
  refine wpAny_pure ?_
  show wpAny _ _ (forIn [Value.ref b] _ _) _ _ _
  rw [List.forIn_cons]
  refine wpAny_bind (wpAny_bind (wpAny_pyHash_tuple (knd := intKind prog w) (show A.in1.units < cLine from hu) k2 ?_))
  refine wpAny_pure ?_
  show wpAny _ _ (forIn [] _ _) _ _ _
  rw [List.forIn_nil]
  refine wpAny_pure ?_
  show wpAny _ _ (retInt (Builtin.Tuple.tupleHashOf [hashStr w q.1, tupleKeyHash (intKind prog w) q.2])) _ _ _
  refine wpAny_ret_mkInt ?_
  have et : s.toks + 1 + (q.2.length + 1) + 1 = s.toks + (q.2.length + 3) := by omega
  unfold qHash reduceHash at h
  show wpAny _ _ (if (decide (-(2 : Int) ^ 63 ≤ Builtin.Tuple.tupleHashOf [hashStr w q.1, tupleKeyHash (intKind prog w) q.2]) && decide (Builtin.Tuple.tupleHashOf [hashStr w q.1, tupleKeyHash (intKind prog w) q.2] < 2 ^ 63)) = true then _ else _) _ _ _
  by_cases hr : (decide (-(2 : Int) ^ 63 ≤ Builtin.Tuple.tupleHashOf [hashStr w q.1, tupleKeyHash (intKind prog w) q.2]) && decide (Builtin.Tuple.tupleHashOf [hashStr w q.1, tupleKeyHash (intKind prog w) q.2] < 2 ^ 63)) = true
  · rw [if_pos hr] at h ⊢
    refine wpAny_pure ?_
    show Q _ { s with toks := s.toks + 1 + (q.2.length + 1) + 1 }
    rw [et]
    exact h
  · rw [if_neg hr] at h ⊢
    refine wpAny_bind (wpAny_rule (wpAny_pure ?_))
    show Q _ { s with toks := s.toks + 1 + (q.2.length + 1) + 1 }
    rw [et]
    exact h
theorem ik_tup {h : Heap} {ns : List Int} {a : Addr} (k : IsTupleKey (intKind prog w) h ns a) : ∃ its : Array Value, h.IsTuple a its ∧ its.size = ns.length ∧ ∀ j (h1 : j < its.size), ∃ t, its[j] = Value.int (ns.getD j 0) t := by
  obtain ⟨o, its, n, e, c, d, hi⟩ := k
  refine ⟨its, ⟨o, e, c, n, d⟩, by rw [← Array.length_toList]; exact hi.length.symm, ?_⟩
  have key : ∀ {ks : List Int} {vs : List Value}, ItemsAre (intKind prog w) ks vs → ∀ j (h1 : j < vs.length), ∃ t, vs[j] = Value.int (ks.getD j 0) t := by
    intro ks vs hh
    induction hh with
    | nil => intro j h1; cases h1
    | cons k1 _ ih =>
      intro j h1
      cases j with
      | zero =>
        obtain ⟨t, z⟩ := Value.isInt_shape k1
        exact ⟨t, z⟩
      | succ j => exact ih j (Nat.lt_of_succ_lt_succ h1)
  intro j h1
  obtain ⟨t, z⟩ := key hi j (by rw [Array.length_toList]; exact h1)
  exact ⟨t, by rw [← z]; simp⟩
theorem all_getD {ns ms : List Int} : (((List.range (min ns.length ms.length)).all fun j => ns.getD j 0 == ms.getD j 0) && ns.length == ms.length) = decide (ns = ms) := by
  by_cases hl : ns.length = ms.length
  · rw [hl, Nat.min_self, beq_self_eq_true, Bool.and_true, Bool.eq_iff_iff, List.all_eq_true, decide_eq_true_iff]
    constructor
    · intro z
      refine List.ext_getElem hl fun j h1 h2 => ?_
      have y := z j (List.mem_range.mpr h2)
      simpa [List.getD, h1, h2] using y
    · rintro rfl j _
      simp
  · rw [beq_eq_false_iff_ne.mpr hl, Bool.and_false]
    exact (decide_eq_false fun z => hl (by rw [z])).symm
theorem ik_eqAt {ns ms : List Int} {a b : Addr} (hu : A.units < cLine) (hx : IsTupleKey (intKind prog w) s.heap ns a) (hy : IsTupleKey (intKind prog w) s.heap ms b) : SeqAt.EqAt A s (.ref a) (.ref b) (decide (ns = ms)) := by
  by_cases hab : a = b
  · subst hab
    rw [hx.inj hy, decide_eq_true rfl]
    exact SeqAt.EqAt.same _
  · obtain ⟨is, t1, z1, g1⟩ := ik_tup hx
    obtain ⟨js, t2, z2, g2⟩ := ik_tup hy
    have z := SeqAt.RcAt.tuples (A := A) (e := fun j => ns.getD j 0 == ms.getD j 0) t1 t2 hu (fun j h1 h2 => by
      obtain ⟨u1, e1⟩ := g1 j h1
      obtain ⟨u2, e2⟩ := g2 j h2
      rw [e1, e2]
      exact SeqAt.EqAt.int_int _ _ _ _)
    rw [z1, z2, all_getD] at z
    exact SeqAt.EqAt.of_refs hab z
theorem qk_eqAt {x y : QK} {a b : Addr} (hu : A.units + 1 < cLine) (hx : IsQK prog w s.heap x a) (hy : IsQK prog w s.heap y b) : SeqAt.EqAt A s (.ref a) (.ref b) (decide (x = y)) := by
  by_cases hab : a = b
  · subst hab
    rw [hx.inj hy, decide_eq_true rfl]
    exact SeqAt.EqAt.same _
  · obtain ⟨o, u, c, n, e, cl, d, k⟩ := hx
    obtain ⟨o', u', c', n', e', cl', d', k'⟩ := hy
    have z := SeqAt.RcAt.tuples (A := A) (e := fun j => if j = 0 then x.1 == y.1 else decide (x.2 = y.2)) (show s.heap.IsTuple a #[.str x.1 u, .ref c] from ⟨o, e, cl, n, d⟩) (show s.heap.IsTuple b #[.str y.1 u', .ref c'] from ⟨o', e', cl', n', d'⟩) (by omega) (fun j h1 h2 => by
      match j, h1, h2 with
      | 0, _, _ => exact SeqAt.EqAt.str_str _ _ _ _
      | 1, _, _ => exact ik_eqAt (show A.in1.units < cLine from hu) k k')
    have ez : (((List.range (min (#[Value.str x.1 u, Value.ref c] : Array Value).size (#[Value.str y.1 u', Value.ref c'] : Array Value).size)).all fun j => if j = 0 then x.1 == y.1 else decide (x.2 = y.2)) && (#[Value.str x.1 u, Value.ref c] : Array Value).size == (#[Value.str y.1 u', Value.ref c'] : Array Value).size) = decide (x = y) := by
      show (((List.range 2).all fun j => if j = 0 then x.1 == y.1 else decide (x.2 = y.2)) && true) = _
      rw [Bool.and_true]
      show ((x.1 == y.1) && (decide (x.2 = y.2) && true)) = _
      rw [Bool.and_true, Bool.eq_iff_iff, Bool.and_eq_true, beq_iff_eq, decide_eq_true_iff, decide_eq_true_iff, Prod.ext_iff]
    rw [ez] at z
    exact SeqAt.EqAt.of_refs hab z
theorem ik_quiet {ns : List Int} {a : Addr} {n : Nat} {Q : Bool → Shared → Prop} (hk : IsTupleKey (intKind prog w) s.heap ns a) (h : Q true s) : wpAny (model prog w) A (eqIsQuiet (n + 1) (.ref a)) Q E s := by
  have hT := hk.typeIs
  obtain ⟨o, its, m, ho, _, hd, hi⟩ := hk
  unfold eqIsQuiet
  refine wpAny_bind (wpAny_specialOf hT F.slot_tuple_eq.lookup ?_)
  show wpAny _ _ (isInstance (.ref a) (.type "tuple") >>= _) _ _ s
  refine wpAny_bind (wpAny_isInstance hT isSubtype_tuple_tuple ?_)
  simp only [Bool.not_true, Bool.false_eq_true, if_false]
  refine wpAny_bind (wpAny_seqItems ho hd (wpAny_bind ?_))
  show wpAny _ _ (forIn its _ _) _ _ s
  rw [← Array.forIn_toList]
  refine wpAny_forIn_list _ (fun rest r s' => r.1 = none ∧ s' = s ∧ ∀ v ∈ rest, carriedByValue v = true) _ ?_ ?_ _ _ ⟨rfl, rfl, hi.byValue⟩
  · rintro v rest r s' ⟨hr, rfl, all⟩
    rw [eqIsQuiet_byValue _ (all v List.mem_cons_self)]
    refine wpAny_bind (wpAny_pure ?_)
    simp only [Bool.not_true, Bool.false_eq_true, if_false]
    exact wpAny_pure ⟨rfl, rfl, fun x hx => all x (List.mem_cons_of_mem _ hx)⟩
  · rintro ⟨r1, r2⟩ s' ⟨hr, rfl, _⟩
    simp only at hr
    subst hr
    exact wpAny_pure h
theorem qk_quiet {q : QK} {a : Addr} {Q : Bool → Shared → Prop} (hk : IsQK prog w s.heap q a) (h : Q true s) : wpAny (model prog w) A (eqIsQuiet 8 (.ref a)) Q E s := by
  have hT := hk.ty
  obtain ⟨o, u, b, n, ho, _, hd, k2⟩ := hk
  unfold eqIsQuiet
  refine wpAny_bind (wpAny_specialOf hT F.slot_tuple_eq.lookup ?_)
  show wpAny _ _ (isInstance (.ref a) (.type "tuple") >>= _) _ _ s
  refine wpAny_bind (wpAny_isInstance hT isSubtype_tuple_tuple ?_)
  simp only [Bool.not_true, Bool.false_eq_true, if_false]
  refine wpAny_bind (wpAny_seqItems ho hd (wpAny_bind ?_))
  show wpAny _ _ (forIn #[Value.str q.1 u, Value.ref b] _ _) _ _ s
  rw [← Array.forIn_toList, List.forIn_cons]
  rw [eqIsQuiet_byValue (v := .str q.1 u) _ rfl]
  refine wpAny_bind (wpAny_bind (wpAny_pure ?_))
  simp only [Bool.not_true, Bool.false_eq_true, if_false]
  refine wpAny_pure ?_
  show wpAny _ _ (forIn [Value.ref b] _ _) _ _ _
  rw [List.forIn_cons]
  refine wpAny_bind (wpAny_bind (ik_quiet k2 ?_))
  simp only [Bool.not_true, Bool.false_eq_true, if_false]
  refine wpAny_pure ?_
  show wpAny _ _ (forIn [] _ _) _ _ _
  rw [List.forIn_nil]
  exact wpAny_pure (wpAny_pure h)
end
noncomputable def qKind (prog : Program) (w : World) : HeapKind prog w QK where
  is := IsQK prog w
  hash := qHash prog w
  draws := fun q => q.2.length + 3
  room := fun A => A.units + 1 < cLine
  inj := fun hx hy => hx.inj hy
  keeps := fun x ho hd hs => x.kept ho hd hs
  pyHash := fun hu hk h => qk_hash hu hk h
  eqBool := fun {A E s x y a b Q} hu hx hy h => qk_eqAt (A := A) hu hx hy prog w E Q h
  quiet := fun hk h => qk_quiet hk h
end ST
set_option Elab.async false
set_option linter.all false
set_option maxRecDepth 100000
set_option maxHeartbeats 4000000
namespace ST
open PySem PySem.Spec PyProof.Rows L2
section
variable {prog : Program} {w : World} {A : Around} {E : Value → Shared → Prop} {s : Shared}
theorem none_ty (s : Shared) : s.TypeIs .none "NoneType" := rfl
theorem none_hash {Q : Int → Shared → Prop} (hu : A.units < cLine) (h : Q 0xFCA86420 { s with toks := s.toks + 1 }) : wpAny (model prog w) A (pyHash .none) Q E s := by
  unfold pyHash pyHashByItsType
  refine wpAny_bind (wpAny_cRoomFor_or (.inr hu) (wpAny_bind (wpAny_specialOf (none_ty s) F.slot_NoneType_hash.lookup ?_)))
  rw [show (some (Value.builtin "NoneType.__hash__") == some Value.none) = false from rfl]
  simp only [Bool.false_eq_true, if_false]
  refine wpAny_bind (wpAny_specialOf (none_ty s) F.slot_NoneType_hash.lookup ?_)
  refine wpAny_bind (wpAny_callSpecialIfBoundUnlessNone?_slot (none_ty s) F.slot_NoneType_hash (wpAny_call_entry F.slot_NoneType_hash (none_ty s) F.entry_NoneType_hash ?_ (F.args_NoneType_hash_1 _)))
  show wpAny _ _ (retInt 0xFCA86420) _ _ s
  refine wpAny_ret_mkInt ?_
  show wpAny _ _ (if (decide (-(2 : Int) ^ 63 ≤ 0xFCA86420) && decide ((0xFCA86420 : Int) < 2 ^ 63)) = true then _ else _) _ _ _
  rw [if_pos (by decide)]
  exact wpAny_pure h
variable {K : Type} [DecidableEq K] {knd : HeapKind prog w K}
theorem tells_none {stored : List Value} {Q : Bool → Shared → Prop} (hst : ∀ v ∈ stored, ∃ k b, v = .ref b ∧ knd.is s.heap k b) (h : Q false s) : wpAny (model prog w) A (tableMayTell .none stored) Q E s := by
  unfold tableMayTell
  by_cases he : stored.isEmpty = true
  · rw [if_pos he]
    exact wpAny_pure h
  rw [if_neg he]
  refine wpAny_bind (wpAny_of_eq (show eqIsQuiet 8 Value.none = pure true from eqIsQuiet_byValue 8 rfl) ?_)
  simp only [Bool.not_true, Bool.false_eq_true, if_false]
  refine wpAny_bind (wpAny_forIn_list _ (fun rest r s' => s' = s ∧ r = (none, ()) ∧ ∀ v ∈ rest, ∃ k b, v = .ref b ∧ knd.is s.heap k b) _ ?_ ?_ _ _ ⟨rfl, rfl, hst⟩)
  · rintro x rest r s' ⟨rfl, rfl, hr⟩
    obtain ⟨k, b, rfl, hb⟩ := hr x List.mem_cons_self
    refine wpAny_bind (knd.quiet hb ?_)
    simp only [Bool.not_true, Bool.false_eq_true, if_false]
    exact wpAny_pure ⟨rfl, rfl, fun v hv => hr v (List.mem_cons_of_mem _ hv)⟩
  · rintro r s' ⟨rfl, rfl, _⟩
    exact wpAny_pure h
theorem find_none {d : Addr} {o : Obj} {es : Array DictEntry} {ep : Nat} {z : Int} {Q : Option Nat → Shared → Prop} (hu : A.units < cLine) (ho : s.heap.get? d = some o) (hd : o.data = .dict es ep)
    (hes : ∀ e ∈ es, ∃ k b its, e.key = .ref b ∧ knd.is s.heap k b ∧ s.heap.IsTuple b its) (h : Q none s) : wpAny (model prog w) A (dictFind d .none z) Q E s := by
  unfold dictFind
  refine wpAny_holding (wpAny_bind (wpAny_dictEntries ho hd ?_))
  dsimp only
  have key : ∀ (i : Nat) (e : DictEntry), es[i]? = some e → ∃ k b its, e.key = .ref b ∧ knd.is s.heap k b ∧ s.heap.IsTuple b its := fun i e q => hes e (Array.mem_of_getElem? q)
  have hst : ∀ v ∈ (placesWithHash es.size (fun i => es[i]?.map (·.hash)) z).filterMap (fun i => es[i]?.map (·.key)), ∃ k b, v = .ref b ∧ knd.is s.heap k b := by
    intro v hv
    obtain ⟨i, _, hi⟩ := List.mem_filterMap.mp hv
    cases q : es[i]? with
    | none => rw [q] at hi; cases hi
    | some e =>
      rw [q] at hi
      obtain ⟨k, b, its, ek, hb, _⟩ := key i e q
      have e1 : e.key = v := by simpa using hi
      exact ⟨k, b, by rw [← e1, ek], hb⟩
  generalize hpl : placesWithHash es.size (fun i => es[i]?.map (·.hash)) z = places at hst
  generalize hsd : places.filterMap (fun i => es[i]?.map (·.key)) = stored at hst
  have hval : ∀ (i : Nat), i ∈ places → ∃ e, es[i]? = some e := fun i hi => by
    rw [← hpl] at hi
    unfold placesWithHash at hi
    have h1 := List.mem_range.mp (List.mem_filter.mp hi).1
    exact ⟨es[i], by simp [h1]⟩
  by_cases hp : places = []
  · subst hp
    have es0 : stored = [] := by rw [← hsd]; rfl
    subst es0
    rw [if_pos (by rfl)]
    unfold dictWalkPlain
    simp only [List.forIn_nil]
    exact wpAny_pure h
  · have hne : ¬ ((Value.none :: stored).all carriedByValue) = true := by
      intro hall
      cases places with
      | nil => exact hp rfl
      | cons i r =>
        obtain ⟨e, he⟩ := hval i List.mem_cons_self
        obtain ⟨k, b, its, ek, _⟩ := key i e he
        have hm : Value.ref b ∈ stored := by
          rw [← hsd]
          exact List.mem_filterMap.mpr ⟨i, List.mem_cons_self, by rw [he]; simp [ek]⟩
        have := List.all_eq_true.mp hall _ (List.mem_cons_of_mem _ hm)
        exact absurd (show false = true from this) Bool.false_ne_true
    rw [if_neg hne]
    have h1 : ¬ (stored == [Value.none]) = true := by
      intro hq
      have hq' : stored = [Value.none] := eq_of_beq hq
      obtain ⟨k, b, e, _⟩ := hst Value.none (by rw [hq']; exact List.mem_singleton.mpr rfl)
      cases e
    rw [if_neg h1]
    refine wpAny_bind (tells_none hst ?_)
    rw [if_neg (by simp)]
    refine wpAny_bind (wpAny_forIn_list _ (fun rest r s' => s' = s ∧ r = (none, none) ∧ ∀ i ∈ rest, i ∈ places) _ ?_ ?_ _ _ ⟨rfl, rfl, fun _ z => z⟩)
    · rintro i rest r s' ⟨rfl, rfl, hr⟩
      obtain ⟨e, he⟩ := hval i (hr i List.mem_cons_self)
      obtain ⟨k, b, its, ek, _, ht⟩ := key i e he
      rw [he]
      dsimp only
      by_cases hh : (e.hash == z) = true
      · rw [if_pos hh, ek]
        refine wpAny_bind (wpAny_dictEpoch ho hd (wpAny_bind (SeqAt.EqAt.tuple_none ht hu prog w _ _ (wpAny_bind (wpAny_dictEpoch ho hd ?_)))))
        rw [if_neg (by simp)]
        simp only [Bool.false_eq_true, if_false]
        refine wpAny_bind (wpAny_rule ?_)
        rw [if_neg (by simp)]
        exact wpAny_pure ⟨rfl, rfl, fun j hj => hr j (List.mem_cons_of_mem _ hj)⟩
      · rw [if_neg hh]
        exact wpAny_pure ⟨rfl, rfl, fun j hj => hr j (List.mem_cons_of_mem _ hj)⟩
    · rintro r s' ⟨rfl, rfl, _⟩
      exact wpAny_pure h
theorem get_none {d : Addr} {o : Obj} {es : Array DictEntry} {ep : Nat} {Q : Option Value → Shared → Prop} (hu : A.units < cLine) (ho : s.heap.get? d = some o) (hd : o.data = .dict es ep)
    (hes : ∀ e ∈ es, ∃ k b its, e.key = .ref b ∧ knd.is s.heap k b ∧ s.heap.IsTuple b its) (h : Q none { s with toks := s.toks + 1 }) : wpAny (model prog w) A (dictGet d .none) Q E s := by
  unfold dictGet
  refine wpAny_holding (wpAny_bind (none_hash hu (wpAny_bind (find_none (s := { s with toks := s.toks + 1 }) hu ho hd hes ?_))))
  exact wpAny_pure h
theorem notIn_none {d : Addr} {o : Obj} {es : Array DictEntry} {ep : Nat} {Q : Value → Shared → Prop} (hu : A.units + 1 < cLine) (hs : (d == sysModules) = false) (ho : s.heap.get? d = some o) (hx : o.ExactDict) (hd : o.data = .dict es ep)
    (hes : ∀ e ∈ es, ∃ k b its, e.key = .ref b ∧ knd.is s.heap k b ∧ s.heap.IsTuple b its) (h : Q (.bool true) { s with toks := s.toks + 1 }) : wpAny (model prog w) A (compareOp .NotIn .none (.ref d)) Q E s := by
  have hT : s.TypeIs (.ref d) "dict" := ⟨o, ho, hx.1⟩
  show wpAny _ _ (do return .bool (!(← contains (.ref d) .none))) Q E s
  refine wpAny_bind ?_
  unfold contains
  refine wpAny_holding (wpAny_bind (wpAny_specialOf hT slot_dict_contains.lookup ?_))
  rw [show (some (Value.builtin "dict.__contains__") == some Value.none) = false from rfl]
  simp only [Bool.false_eq_true, if_false]
  refine wpAny_bind (wpAny_callSpecialUnlessNone?_slot (name := Str.ofString "__contains__") hT slot_dict_contains (wpAny_call_entry slot_dict_contains hT entry_dict_contains ?_ (args_dict_contains _ _)))
  show wpAny _ _ (dictGet d .none >>= _) _ _ s
  refine wpAny_bind (get_none (A := A.in1) hu ho hd hes ?_)
  show wpAny _ _ (Builtin.Dict.pendingKey? d .none >>= _) _ _ _
  exact wpAny_bind (wpAny_pendingKey_other hs (wpAny_pure ⟨_, rfl, wpAny_truthy_bool (wpAny_pure h)⟩))
theorem iter_dict {d : Addr} {o : Obj} {es : Array DictEntry} {ep : Nat} {Q : Value → Shared → Prop} (hs : (d == sysModules) = false) (ho : s.heap.get? d = some o) (hx : o.ExactDict) (hd : o.data = .dict es ep)
    (h : Q (.ref s.heap.objs.size) { s with heap := s.heap.push { cls := .type "dict_keyiterator", data := .fields #[.ref d, .int 0 0, .int es.size 0, .int ep 0] } }) : wpAny (model prog w) A (pyIter (.ref d)) Q E s := by
  have hT : s.TypeIs (.ref d) "dict" := ⟨o, ho, hx.1⟩
  refine wpAny_pyIter_slot hT F.slot_dict_iter (wpAny_call_entry F.slot_dict_iter hT F.entry_dict_iter ?_ (F.args_dict_iter_1 _))
  unfold Builtin.«dict.__iter__» Builtin.Dict.dictSlotNone
  refine wpAny_bind (wpAny_bind (wpAny_notOrdered_dict hT (wpAny_pure ?_)))
  show wpAny _ _ (Builtin.Dict.showsAll d >>= _) _ _ s
  unfold Builtin.Dict.showsAll
  rw [hs]
  refine wpAny_bind (wpAny_pure (wpAny_bind (wpAny_dictEntries ho hd (wpAny_bind (wpAny_dictEpoch ho hd ?_)))))
  refine wpAny_bind (wpAny_newObj_type (wpAny_pure ⟨_, rfl, "dict_keyiterator", _, ⟨_, Heap.get?_push_size _ rfl, rfl⟩, F.slot_dict_keyiterator_next.lookup, ?_⟩))
  simpa [rawInt] using h
theorem next_item {it d : Addr} {i ep : Nat} {o : Obj} {es : Array DictEntry} {e : DictEntry} {Q : Option Value → Shared → Prop} (hit : s.heap.IsKeyIter it d i es.size ep) (ho : s.heap.get? d = some o) (hd : o.data = .dict es ep) (he : es[i]? = some e)
    (h : ∀ h', h'.IsKeyIter it d (i + 1) es.size ep → Heap.SameBut it s.heap h' → Q (some e.key) { s with heap := h' }) : wpAny (model prog w) A (pyNext (.ref it)) Q E s := by
  have hT := hit.typeIs
  obtain ⟨oi, e1, c1, d1⟩ := hit
  unfold pyNext
  refine wpAny_bind (wpAny_attempt (wpAny_callSpecial?_slot (name := Str.ofString "__next__") hT F.slot_dict_keyiterator_next (wpAny_call_entry F.slot_dict_keyiterator_next hT F.entry_dict_keyiterator_next ?_ (F.args_dict_keyiterator_next_1 _))))
  refine wpAny_bind (wpAny_pure (wpAny_bind (wpAny_bind (wpAny_bind (wpAny_typeNameOfWhole_keyiter hT (wpAny_pure (wpAny_bind (wpAny_fieldsOf e1 d1 ?_))))))))
  have own : Builtin.Dict_items.ownsTuple "dict_keyiterator" = false := by decide
  simp only [own, Bool.false_eq_true, if_false]
  show wpAny _ _ (if (Value.ref d == Value.none) = true then _ else _) _ _ s
  rw [if_neg (fun z : (Value.ref d == Value.none) = true => Bool.false_ne_true z)]
  refine wpAny_bind (wpAny_pure (wpAny_bind (wpAny_dictEntries ho hd ?_)))
  rw [if_neg (by simp)]
  refine wpAny_bind (wpAny_pure (wpAny_bind (wpAny_dictEpoch ho hd ?_)))
  rw [if_neg (by simp)]
  refine wpAny_pure ?_
  have nn : ¬ ((i : Int) < 0) := by omega
  simp only [nn, if_false, Int.toNat_natCast, he]
  refine wpAny_bind (wpAny_bind (wpAny_typeNameOfWhole_keyiter hT (wpAny_pure (wpAny_bind (wpAny_isOneOf_keyiter hT ?_)))))
  show wpAny _ _ (setField (.ref it) 1 (rawInt ((i : Int) + 1)) >>= _) _ _ s
  refine wpAny_bind (wpAny_setField e1 d1 (by simp) ?_)
  have k2 : (s.heap.update it (Obj.mapFields (·.setIfInBounds 1 (rawInt ((i : Int) + 1))))).IsKeyIter it d (i + 1) es.size ep :=
    ⟨_, Heap.get?_update_self _ e1 (Obj.isFreed_of_fields (Obj.data_mapFields d1 _)), (Obj.cls_mapFields ..).trans c1, by rw [Obj.data_mapFields d1]; simp [rawInt]⟩
  refine wpAny_bind (wpAny_holding (wpAny_bind (wpAny_isOneOf_keyiter (s := { s with heap := s.heap.update it (Obj.mapFields (·.setIfInBounds 1 (rawInt ((i : Int) + 1)))) }) k2.typeIs ?_)))
  show wpAny _ _ (pure e.key) _ _ _
  exact wpAny_pure (wpAny_pure ⟨_, rfl, wpAny_pure (h _ k2 (Heap.SameBut.update ..))⟩)
theorem next_end {it d : Addr} {i ep : Nat} {o : Obj} {es : Array DictEntry} {Q : Option Value → Shared → Prop} (hh : A.handled = none) (hit : s.heap.IsKeyIter it d i es.size ep) (ho : s.heap.get? d = some o) (hd : o.data = .dict es ep) (he : es.size ≤ i)
    (h : ∀ h', Heap.ExtBut it s.heap h' → Q none { s with heap := h' }) : wpAny (model prog w) A (pyNext (.ref it)) Q E s := by
  have hT := hit.typeIs
  obtain ⟨oi, e1, c1, d1⟩ := hit
  unfold pyNext
  refine wpAny_bind (wpAny_attempt (wpAny_callSpecial?_slot (name := Str.ofString "__next__") hT F.slot_dict_keyiterator_next (wpAny_call_entry F.slot_dict_keyiterator_next hT F.entry_dict_keyiterator_next ?_ (F.args_dict_keyiterator_next_1 _))))
  refine wpAny_bind (wpAny_pure (wpAny_bind (wpAny_bind (wpAny_bind (wpAny_typeNameOfWhole_keyiter hT (wpAny_pure (wpAny_bind (wpAny_fieldsOf e1 d1 ?_))))))))
  have own : Builtin.Dict_items.ownsTuple "dict_keyiterator" = false := by decide
  simp only [own, Bool.false_eq_true, if_false]
  show wpAny _ _ (if (Value.ref d == Value.none) = true then _ else _) _ _ s
  rw [if_neg (fun z : (Value.ref d == Value.none) = true => Bool.false_ne_true z)]
  refine wpAny_bind (wpAny_pure (wpAny_bind (wpAny_dictEntries ho hd ?_)))
  rw [if_neg (by simp)]
  refine wpAny_bind (wpAny_pure (wpAny_bind (wpAny_dictEpoch ho hd ?_)))
  rw [if_neg (by simp)]
  refine wpAny_pure ?_
  have nn : ¬ ((i : Int) < 0) := by omega
  simp only [nn, if_false, Int.toNat_natCast, Array.getElem?_eq_none he]
  refine wpAny_bind (wpAny_bind (wpAny_typeNameOfWhole_keyiter hT (wpAny_pure ?_)))
  show wpAny _ _ (setField (.ref it) 0 .none >>= _) _ _ s
  refine wpAny_bind (wpAny_setField e1 d1 (by simp) ?_)
  show wpAny _ _ (newExc (.type "StopIteration") [] >>= _) _ _ _
  simp only [newExc, newTuple]
  refine wpAny_bind (wpAny_bind (wpAny_newObj_type ?_ (by size_fits)))
  refine wpAny_bind (m := firstArgMember _ _) (wpAny_of_eq (a := Value.none) (by first | rfl | (simp only [firstArgMember]; rfl)) (wpAny_newObj_type ?_ (by size_fits)))
  simp only [raiseNew]
  refine wpAny_bind (wpAny_handled ?_)
  rw [show A.in1.handled = none from hh]
  refine wpAny_bind (wpAny_pure (wpAny_throw ?_))
  refine wpAny_bind (wpAny_isInstance (T := "StopIteration") (b := true) ⟨_, Heap.get?_push_size _ rfl, rfl⟩ isSubtype_stop ?_)
  exact wpAny_pure (h _ (((Heap.SameBut.update ..).extBut.push _).push _))
end
end ST
set_option Elab.async false
set_option linter.all false
set_option maxRecDepth 100000
set_option maxHeartbeats 4000000
namespace ST
open PySem
noncomputable def partAt : Va → List Bool → Option Va
  | x, [] => some x
  | .pr l m, b :: r => partAt (if b = true then m else l) r
  | _, _ :: _ => none
inductive Qn where
  | k (p : List Bool) | s (p : List Bool)
  deriving DecidableEq
noncomputable def Qn.pl : Qn → List Bool
  | .k p => p
  | .s p => p
inductive At where
  | int (i : Int) | str (x : Str)
  deriving DecidableEq
noncomputable def At.va : At → Va
  | .int i => .int i
  | .str x => .str x
noncomputable def Kd.at (k : Kd) : At := .str k.word
theorem word_inj {a b : Kd} (h : a.word = b.word) : a = b := by
  revert h
  cases a <;> cases b <;> first | (intro _; rfl) | (intro h; exact absurd h (by decide +kernel))
theorem at_inj {a b : Kd} (h : a.at = b.at) : a = b := by
  unfold Kd.at at h
  injection h with h
  exact word_inj h
theorem va_inj {a b : At} (h : a.va = b.va) : a = b := by
  cases a <;> cases b <;> simp_all [At.va]
theorem va_kd (a : At) : a.va.kd ≠ .p := by cases a <;> (intro h; cases h)
noncomputable abbrev Needs := List (Qn × At)
noncomputable def nkeys (n : Needs) : List Qn := n.map (·.1)
theorem mem_nkeys {q : Qn} {n : Needs} : q ∈ nkeys n ↔ ∃ a, (q, a) ∈ n := by
  unfold nkeys
  rw [List.mem_map]
  constructor
  · rintro ⟨⟨q', a⟩, h, rfl⟩; exact ⟨a, h⟩
  · rintro ⟨a, h⟩; exact ⟨(q, a), h, rfl⟩
theorem in_nkeys {q : Qn} {a : At} {n : Needs} (h : (q, a) ∈ n) : q ∈ nkeys n := mem_nkeys.mpr ⟨a, h⟩
noncomputable def look (n : Needs) (q : Qn) : Option At := (n.find? fun e => decide (e.1 = q)).map (·.2)
theorem look_mem {n : Needs} {q : Qn} {a : At} (h : look n q = some a) : (q, a) ∈ n := by
  unfold look at h
  cases e : n.find? fun e => decide (e.1 = q) with
  | none => rw [e] at h; cases h
  | some y =>
    rw [e] at h
    have h1 := List.mem_of_find?_eq_some e
    have h2 := List.find?_some e
    have h3 : y.1 = q := by simpa using h2
    have h4 : y.2 = a := by simpa using h
    rw [← h3, ← h4]
    exact h1
theorem look_none {n : Needs} {q : Qn} : look n q = none ↔ q ∉ nkeys n := by
  unfold look
  rw [Option.map_eq_none_iff, List.find?_eq_none, mem_nkeys]
  constructor
  · rintro h ⟨a, ha⟩
    exact h _ ha (by simp)
  · intro h e he z
    have z' : e.1 = q := by simpa using z
    exact h ⟨e.2, by rw [← z']; exact he⟩
theorem look_some {n : Needs} {q : Qn} (h : q ∈ nkeys n) : ∃ a, look n q = some a := by
  cases e : look n q with
  | some a => exact ⟨a, rfl⟩
  | none => exact absurd h (look_none.mp e)
theorem nd_fn {n : Needs} (h : (nkeys n).Nodup) : ∀ {q : Qn} {a b : At}, (q, a) ∈ n → (q, b) ∈ n → a = b := by
  induction n with
  | nil => intro q a b h; simp at h
  | cons e r ih =>
    intro q a b h1 h2
    have hd : e.1 ∉ nkeys r := (List.nodup_cons.mp h).1
    have hr : (nkeys r).Nodup := (List.nodup_cons.mp h).2
    rcases List.mem_cons.mp h1 with e1 | h1' <;> rcases List.mem_cons.mp h2 with e2 | h2'
    · rw [← e1] at e2; exact ((Prod.mk.inj e2).2).symm
    · subst e1; exact absurd (in_nkeys h2') hd
    · subst e2; exact absurd (in_nkeys h1') hd
    · exact ih hr h1' h2'
theorem look_of {n : Needs} (h : (nkeys n).Nodup) {q : Qn} {a : At} (m : (q, a) ∈ n) : look n q = some a := by
  obtain ⟨b, hb⟩ := look_some (in_nkeys m)
  rw [hb, nd_fn h (look_mem hb) m]
noncomputable def Meets (x : Va) : Qn × At → Prop
  | (.k p, a) => ∃ y, partAt x p = some y ∧ a = y.kd.at
  | (.s p, a) => partAt x p = some a.va
noncomputable def Fits (x : Va) (ns : Needs) : Prop := ∀ n ∈ ns, Meets x n
theorem meets_fn {x : Va} {q : Qn} {a b : At} (h1 : Meets x (q, a)) (h2 : Meets x (q, b)) : a = b := by
  cases q with
  | k p =>
    obtain ⟨y, e1, r1⟩ := h1
    obtain ⟨z, e2, r2⟩ := h2
    rw [e1] at e2
    cases e2
    rw [r1, r2]
  | s p =>
    have e1 : partAt x p = some a.va := h1
    have e2 : partAt x p = some b.va := h2
    rw [e1] at e2
    exact va_inj (Option.some.inj e2)
theorem fits_nil (x : Va) : Fits x [] := fun _ h => by simp at h
theorem fits_app {x : Va} {a b : Needs} : Fits x (a ++ b) ↔ Fits x a ∧ Fits x b := by
  constructor
  · exact fun h => ⟨fun n m => h n (List.mem_append_left _ m), fun n m => h n (List.mem_append_right _ m)⟩
  · rintro ⟨h1, h2⟩ n m
    rcases List.mem_append.mp m with m | m
    · exact h1 n m
    · exact h2 n m
theorem fits_cons {x : Va} {n : Qn × At} {b : Needs} : Fits x (n :: b) ↔ Meets x n ∧ Fits x b := by
  constructor
  · exact fun h => ⟨h n List.mem_cons_self, fun m hm => h m (List.mem_cons_of_mem _ hm)⟩
  · rintro ⟨h1, h2⟩ m hm
    rcases List.mem_cons.mp hm with e | hm
    · rw [e]; exact h1
    · exact h2 m hm
theorem partAt_app : ∀ (p r : List Bool) (x : Va), partAt x (p ++ r) = (partAt x p).bind fun y => partAt y r
  | [], r, x => by cases x <;> rfl
  | b :: p, r, x => by
    cases x with
    | pr l m => exact partAt_app p r _
    | int i => rfl
    | str i => rfl
theorem partAt_nil (x : Va) : partAt x [] = some x := by cases x <;> rfl
theorem partAt_pair {x l m : Va} {p : List Bool} (h : partAt x p = some (.pr l m)) (b : Bool) : partAt x (p ++ [b]) = some (if b = true then m else l) := by
  rw [partAt_app, h]
  show partAt _ [] = _
  rw [partAt_nil]
noncomputable def needsOf : Sh → List Bool → Needs
  | .any, _ => []
  | .kind k, p => [(.k p, k.at)]
  | .si i, p => [(.k p, Kd.n.at), (.s p, .int i)]
  | .ss x, p => [(.k p, Kd.t.at), (.s p, .str x)]
  | .pair a b, p => (.k p, Kd.p.at) :: (needsOf a (p ++ [false]) ++ needsOf b (p ++ [true]))
theorem fits_needs {x : Va} : ∀ {s : Sh} {p : List Bool} {y : Va}, partAt x p = some y → (fit s y = true ↔ Fits x (needsOf s p))
  | .any, p, y, h => by
    constructor
    · exact fun _ => fits_nil x
    · intro _; cases y <;> rfl
  | .kind k, p, y, h => by
    have e : fit (.kind k) y = decide (y.kd = k) := by cases y <;> rfl
    rw [e, decide_eq_true_iff]
    show _ ↔ Fits x [_]
    rw [fits_cons]
    constructor
    · rintro rfl
      exact ⟨⟨y, h, rfl⟩, fits_nil x⟩
    · rintro ⟨⟨z, hz, q⟩, _⟩
      rw [h] at hz
      cases hz
      exact (at_inj q).symm
  | .si i, p, y, h => by
    show _ ↔ Fits x [_, _]
    rw [fits_cons, fits_cons]
    constructor
    · intro f
      cases y with
      | int j =>
        have e : j = i := by simpa [fit] using f
        subst e
        exact ⟨⟨_, h, rfl⟩, h, fits_nil x⟩
      | str j => cases f
      | pr a b => cases f
    · rintro ⟨_, h2, _⟩
      have e : partAt x p = some (.int i) := h2
      rw [h] at e
      cases e
      show decide (i = i) = true
      simp
  | .ss i, p, y, h => by
    show _ ↔ Fits x [_, _]
    rw [fits_cons, fits_cons]
    constructor
    · intro f
      cases y with
      | str j =>
        have e : j = i := by simpa [fit] using f
        subst e
        exact ⟨⟨_, h, rfl⟩, h, fits_nil x⟩
      | int j => cases f
      | pr a b => cases f
    · rintro ⟨_, h2, _⟩
      have e : partAt x p = some (.str i) := h2
      rw [h] at e
      cases e
      show decide (i = i) = true
      simp
  | .pair a b, p, y, h => by
    show _ ↔ Fits x (_ :: _)
    rw [fits_cons, fits_app]
    cases y with
    | pr l m =>
      have h0 : partAt x (p ++ [false]) = some l := partAt_pair h false
      have h1 : partAt x (p ++ [true]) = some m := partAt_pair h true
      have e : fit (.pair a b) (.pr l m) = (fit a l && fit b m) := rfl
      rw [e, Bool.and_eq_true, fits_needs (s := a) h0, fits_needs (s := b) h1]
      exact ⟨fun z => ⟨⟨_, h, rfl⟩, z⟩, fun z => z.2⟩
    | int j =>
      constructor
      · intro f; cases f
      · rintro ⟨⟨z, hz, q⟩, _⟩
        rw [h] at hz
        cases hz
        exact absurd (at_inj q) (fun z => nomatch z)
    | str j =>
      constructor
      · intro f; cases f
      · rintro ⟨⟨z, hz, q⟩, _⟩
        rw [h] at hz
        cases hz
        exact absurd (at_inj q) (fun z => nomatch z)
theorem fits_row {s : Sh} {x : Va} : fit s x = true ↔ Fits x (needsOf s []) := fits_needs (partAt_nil x)
structure Closed (T : Needs) : Prop where
  kd : ∀ p a, (Qn.k p, a) ∈ T → ∃ k : Kd, a = k.at
  up : ∀ p b a, (Qn.k (p ++ [b]), a) ∈ T → (Qn.k p, Kd.p.at) ∈ T
  sm : ∀ p a, (Qn.s p, a) ∈ T → (Qn.k p, a.va.kd.at) ∈ T
  fn : ∀ q a b, (q, a) ∈ T → (q, b) ∈ T → a = b
theorem closed_nil : Closed [] := ⟨fun _ _ h => by simp at h, fun _ _ _ h => by simp at h, fun _ _ h => by simp at h, fun _ _ _ h => by simp at h⟩
theorem needs_pre : ∀ {s : Sh} {p : List Bool} {q : Qn} {a : At}, (q, a) ∈ needsOf s p → ∃ r, q.pl = p ++ r
  | .any, p, q, a, h => by simp [needsOf] at h
  | .kind k, p, q, a, h => by
    simp [needsOf] at h
    exact ⟨[], by rw [h.1]; simp [Qn.pl]⟩
  | .si i, p, q, a, h => by
    simp [needsOf] at h
    rcases h with h | h <;> exact ⟨[], by rw [h.1]; simp [Qn.pl]⟩
  | .ss i, p, q, a, h => by
    simp [needsOf] at h
    rcases h with h | h <;> exact ⟨[], by rw [h.1]; simp [Qn.pl]⟩
  | .pair b c, p, q, a, h => by
    rcases List.mem_cons.mp h with e | h
    · cases e; exact ⟨[], by simp [Qn.pl]⟩
    · rcases List.mem_append.mp h with h | h
      · obtain ⟨r, e⟩ := needs_pre h; exact ⟨false :: r, by rw [e]; simp⟩
      · obtain ⟨r, e⟩ := needs_pre h; exact ⟨true :: r, by rw [e]; simp⟩
theorem nd_app {a b : Needs} (ha : (nkeys a).Nodup) (hb : (nkeys b).Nodup) (h : ∀ q, q ∈ nkeys a → q ∈ nkeys b → False) : (nkeys (a ++ b)).Nodup := by
  unfold nkeys at *
  rw [List.map_append, List.nodup_append]
  exact ⟨ha, hb, fun x hx y hy e => h x hx (by rw [e]; exact hy)⟩
theorem needs_nd : ∀ (s : Sh) (p : List Bool), (nkeys (needsOf s p)).Nodup
  | .any, p => by simp [needsOf, nkeys]
  | .kind k, p => by simp [needsOf, nkeys]
  | .si i, p => by simp [needsOf, nkeys]
  | .ss i, p => by simp [needsOf, nkeys]
  | .pair b c, p => by
    show (Qn.k p :: nkeys (needsOf b (p ++ [false]) ++ needsOf c (p ++ [true]))).Nodup
    rw [List.nodup_cons]
    constructor
    · intro h
      obtain ⟨a, h⟩ := mem_nkeys.mp h
      rcases List.mem_append.mp h with h | h
      · obtain ⟨r, e⟩ := needs_pre h
        have e' := congrArg List.length e
        simp [Qn.pl] at e'
      · obtain ⟨r, e⟩ := needs_pre h
        have e' := congrArg List.length e
        simp [Qn.pl] at e'
    · refine nd_app (needs_nd b _) (needs_nd c _) fun q h1 h2 => ?_
      obtain ⟨a1, h1⟩ := mem_nkeys.mp h1
      obtain ⟨a2, h2⟩ := mem_nkeys.mp h2
      obtain ⟨r1, e1⟩ := needs_pre h1
      obtain ⟨r2, e2⟩ := needs_pre h2
      rw [e1] at e2
      simp at e2
theorem needs_kd : ∀ {s : Sh} {p q : List Bool} {a : At}, (Qn.k q, a) ∈ needsOf s p → ∃ k : Kd, a = k.at
  | .any, p, q, a, h => by simp [needsOf] at h
  | .kind k, p, q, a, h => by simp [needsOf] at h; exact ⟨k, h.2⟩
  | .si i, p, q, a, h => by simp [needsOf] at h; exact ⟨_, h.2⟩
  | .ss i, p, q, a, h => by simp [needsOf] at h; exact ⟨_, h.2⟩
  | .pair b c, p, q, a, h => by
    rcases List.mem_cons.mp h with e | h
    · cases e; exact ⟨_, rfl⟩
    · rcases List.mem_append.mp h with h | h
      · exact needs_kd h
      · exact needs_kd h
theorem needs_sm : ∀ {s : Sh} {p q : List Bool} {a : At}, (Qn.s q, a) ∈ needsOf s p → (Qn.k q, a.va.kd.at) ∈ needsOf s p
  | .any, p, q, a, h => by simp [needsOf] at h
  | .kind k, p, q, a, h => by simp [needsOf] at h
  | .si i, p, q, a, h => by
    simp [needsOf] at h
    obtain ⟨rfl, rfl⟩ := h
    simp [needsOf, At.va, Va.kd]
  | .ss i, p, q, a, h => by
    simp [needsOf] at h
    obtain ⟨rfl, rfl⟩ := h
    simp [needsOf, At.va, Va.kd]
  | .pair b c, p, q, a, h => by
    rcases List.mem_cons.mp h with e | h
    · cases e
    · refine List.mem_cons_of_mem _ ?_
      rcases List.mem_append.mp h with h | h
      · exact List.mem_append_left _ (needs_sm h)
      · exact List.mem_append_right _ (needs_sm h)
theorem needs_up : ∀ {s : Sh} {p q : List Bool} {b : Bool} {a : At}, (Qn.k (q ++ [b]), a) ∈ needsOf s p → q ++ [b] = p ∨ (Qn.k q, Kd.p.at) ∈ needsOf s p
  | .any, p, q, b, a, h => by simp [needsOf] at h
  | .kind k, p, q, b, a, h => by simp [needsOf] at h; exact .inl h.1
  | .si i, p, q, b, a, h => by simp [needsOf] at h; exact .inl h.1
  | .ss i, p, q, b, a, h => by simp [needsOf] at h; exact .inl h.1
  | .pair c d, p, q, b, a, h => by
    rcases List.mem_cons.mp h with e | h
    · injection e with e1 _; injection e1 with e1; exact .inl e1
    · right
      rcases List.mem_append.mp h with h | h
      · rcases needs_up h with e | h
        · have e' := List.append_inj' e rfl
          rw [e'.1]
          exact List.mem_cons_self
        · exact List.mem_cons_of_mem _ (List.mem_append_left _ h)
      · rcases needs_up h with e | h
        · have e' := List.append_inj' e rfl
          rw [e'.1]
          exact List.mem_cons_self
        · exact List.mem_cons_of_mem _ (List.mem_append_right _ h)
theorem closed_needs (s : Sh) : Closed (needsOf s []) where
  kd := fun _ _ h => needs_kd h
  up := fun q b a h => by
    rcases needs_up h with e | h
    · simp at e
    · exact h
  sm := fun _ _ h => needs_sm h
  fn := fun _ _ _ h1 h2 => nd_fn (needs_nd s []) h1 h2
end ST
set_option Elab.async false
set_option linter.all false
set_option maxRecDepth 100000
set_option maxHeartbeats 4000000
namespace ST
open PySem
theorem snoc_ind' {α : Type} {P : List α → Prop} (h0 : P []) (hs : ∀ p b, P p → P (p ++ [b])) : ∀ p, P p := by
  intro p
  have key : ∀ n (p : List α), p.length = n → P p := by
    intro n
    induction n with
    | zero =>
      intro p hp
      rw [List.length_eq_zero_iff.mp hp]
      exact h0
    | succ n ih =>
      intro p hp
      have hne : p ≠ [] := fun z => by rw [z] at hp; cases hp
      rw [← List.dropLast_concat_getLast hne]
      exact hs _ _ (ih _ (by rw [List.length_dropLast, hp]; rfl))
  exact key _ p rfl
section
variable (N : Needs) (sn : Int) (st : Str)
noncomputable def bld : Nat → List Bool → Va
  | 0, _ => .int sn
  | n + 1, p => match look N (.s p) with
    | some a => a.va
    | none => match look N (.k p) with
      | some a => if a = Kd.p.at then .pr (bld n (p ++ [false])) (bld n (p ++ [true])) else if a = Kd.t.at then .str st else .int sn
      | none => .int sn
noncomputable def build (M : Nat) (p : List Bool) : Va := bld N sn st (M + 1 - p.length) p
end
section
variable {N : Needs} {sn : Int} {st : Str} {M : Nat}
theorem build_over {p : List Bool} (h : M < p.length) : build N sn st M p = .int sn := by
  unfold build
  rw [show M + 1 - p.length = 0 by omega]
  rfl
theorem build_step {p : List Bool} (h : p.length ≤ M) : build N sn st M p = match look N (.s p) with
    | some a => a.va
    | none => match look N (.k p) with
      | some a => if a = Kd.p.at then .pr (build N sn st M (p ++ [false])) (build N sn st M (p ++ [true])) else if a = Kd.t.at then .str st else .int sn
      | none => .int sn := by
  unfold build
  rw [show M + 1 - p.length = (M - p.length) + 1 by omega]
  have e : ∀ b : Bool, M + 1 - (p ++ [b]).length = M - p.length := fun b => by simp
  rw [e, e]
  rfl
variable (C : Closed N) (hM : ∀ q ∈ nkeys N, q.pl.length ≤ M)
include C hM
theorem no_same {p : List Bool} (h : (Qn.k p, Kd.p.at) ∈ N) : look N (.s p) = none := by
  rw [look_none]
  intro z
  obtain ⟨a, ha⟩ := mem_nkeys.mp z
  have e := C.fn _ _ _ h (C.sm _ _ ha)
  exact va_kd a (at_inj e).symm
theorem look_c {q : Qn} {a : At} (h : (q, a) ∈ N) : look N q = some a := by
  obtain ⟨b, hb⟩ := look_some (in_nkeys h)
  rw [hb, C.fn _ _ _ (look_mem hb) h]
theorem build_pair {p : List Bool} (h : (Qn.k p, Kd.p.at) ∈ N) : build N sn st M p = .pr (build N sn st M (p ++ [false])) (build N sn st M (p ++ [true])) := by
  rw [build_step (p := p) (hM _ (in_nkeys h)), no_same C hM h, look_c C hM h]
  show (if Kd.p.at = Kd.p.at then _ else _) = _
  rw [if_pos rfl]
theorem build_same {p : List Bool} {a : At} (h : (Qn.s p, a) ∈ N) : build N sn st M p = a.va := by
  rw [build_step (p := p) (hM _ (in_nkeys h)), look_c C hM h]
theorem build_kind {p : List Bool} {a : At} (h : (Qn.k p, a) ∈ N) : a = (build N sn st M p).kd.at := by
  rw [build_step (p := p) (hM _ (in_nkeys h)), look_c C hM h]
  cases e : look N (.s p) with
  | some b =>
    show a = b.va.kd.at
    exact C.fn _ _ _ h (C.sm _ _ (look_mem e))
  | none =>
    show a = (if a = Kd.p.at then _ else _ : Va).kd.at
    obtain ⟨k, rfl⟩ := C.kd _ _ h
    by_cases h1 : k.at = Kd.p.at
    · rw [if_pos h1]; exact h1
    · rw [if_neg h1]
      by_cases h2 : k.at = Kd.t.at
      · rw [if_pos h2]; exact h2
      · rw [if_neg h2]
        cases k with
        | n => rfl
        | t => exact absurd rfl h2
        | p => exact absurd rfl h1
theorem build_part : ∀ {r p : List Bool} {y : Va}, partAt (build N sn st M p) r = some y → y = build N sn st M (p ++ r)
  | [], p, y, h => by
    rw [partAt_nil] at h
    rw [List.append_nil]
    exact (Option.some.inj h).symm
  | b :: r, p, y, h => by
    by_cases hk : (Qn.k p, Kd.p.at) ∈ N
    · rw [build_pair C hM hk] at h
      have h' : partAt (build N sn st M (p ++ [b])) r = some y := by cases b <;> exact h
      have z := build_part h'
      rw [z]
      simp
    · exfalso
      have at_ : ∀ z : Va, z.kd ≠ .p → partAt z (b :: r) = none := fun z hz => by
        cases z with
        | pr l m => exact absurd rfl hz
        | int i => rfl
        | str i => rfl
      have hn : (build N sn st M p).kd ≠ .p := by
        by_cases hl : p.length ≤ M
        · rw [build_step hl]
          cases e : look N (.s p) with
          | some a => exact va_kd a
          | none =>
            cases e2 : look N (.k p) with
            | none => exact fun z => nomatch z
            | some a =>
              have ha : a ≠ Kd.p.at := fun z => hk (by rw [← z]; exact look_mem e2)
              show (if a = Kd.p.at then _ else _ : Va).kd ≠ .p
              rw [if_neg ha]
              by_cases h2 : a = Kd.t.at
              · rw [if_pos h2]; exact fun z => nomatch z
              · rw [if_neg h2]; exact fun z => nomatch z
        · rw [build_over (by omega)]; exact fun z => nomatch z
      rw [at_ _ hn] at h
      cases h
theorem build_at : ∀ (p : List Bool) (a : At), (Qn.k p, a) ∈ N → partAt (build N sn st M []) p = some (build N sn st M p) := by
  refine snoc_ind' (P := fun p => ∀ a : At, (Qn.k p, a) ∈ N → partAt (build N sn st M []) p = some (build N sn st M p)) ?_ ?_
  · intro a _
    exact partAt_nil _
  · intro p b ih a h
    have hp := C.up _ _ _ h
    have z := ih _ hp
    rw [build_pair C hM hp] at z
    rw [partAt_pair z b]
    cases b <;> rfl
theorem build_fits : Fits (build N sn st M []) N := by
  rintro ⟨q, a⟩ h
  cases q with
  | k p => exact ⟨_, build_at C hM p a h, build_kind C hM h⟩
  | s p =>
    show partAt _ p = some a.va
    rw [build_at C hM p _ (C.sm _ _ h), build_same C hM h]
theorem build_strange {p : List Bool} {a : At} (h : Qn.s p ∉ nkeys N) (h1 : a ≠ .int sn) (h2 : a ≠ .str st) : ¬ Meets (build N sn st M []) (.s p, a) := by
  intro z
  have z' : partAt (build N sn st M []) p = some a.va := z
  have e := build_part C hM z'
  rw [List.nil_append] at e
  by_cases hl : p.length ≤ M
  · rw [build_step hl, look_none.mpr h] at e
    cases e2 : look N (.k p) with
    | none =>
      rw [e2] at e
      exact h1 (va_inj (b := .int sn) e)
    | some b =>
      rw [e2] at e
      have e' : a.va = (if b = Kd.p.at then _ else _ : Va) := e
      by_cases hb : b = Kd.p.at
      · rw [if_pos hb] at e'
        exact va_kd a (by rw [e']; rfl)
      · rw [if_neg hb] at e'
        by_cases ht : b = Kd.t.at
        · rw [if_pos ht] at e'
          exact h2 (va_inj (b := .str st) e')
        · rw [if_neg ht] at e'
          exact h1 (va_inj (b := .int sn) e')
  · rw [build_over (by omega)] at e
    exact h1 (va_inj (b := .int sn) e)
end
structure Rw where
  num : Nat
  ns : Needs
  qs : List Qn
noncomputable def ahead : Qn → Option Qn
  | .s p => some (.k p)
  | .k p => if p = [] then none else some (.k p.dropLast)
noncomputable def behind : Qn → At → List Qn
  | .s _, _ => []
  | .k p, a => if a = Kd.p.at then [.k (p ++ [false]), .k (p ++ [true])] else [.s p]
theorem ahead_k (p : List Bool) : ahead (.k p) = if p = [] then none else some (.k p.dropLast) := rfl
theorem behind_k (p : List Bool) (a : At) : behind (.k p) a = if a = Kd.p.at then [.k (p ++ [false]), .k (p ++ [true])] else [.s p] := rfl
theorem ahead_snoc (p : List Bool) (b : Bool) : ahead (.k (p ++ [b])) = some (.k p) := by
  rw [ahead_k, if_neg (by simp)]
  simp
theorem behind_ahead {q q' : Qn} {a : At} (h : q' ∈ behind q a) : ahead q' = some q := by
  cases q with
  | s p => simp [behind] at h
  | k p =>
    rw [behind_k] at h
    by_cases e : a = Kd.p.at
    · rw [if_pos e] at h
      simp at h
      rcases h with rfl | rfl
      · exact ahead_snoc p false
      · exact ahead_snoc p true
    · rw [if_neg e] at h
      simp at h
      subst h
      rfl
noncomputable def free (ns : Needs) (q : Qn) : Bool := match ahead q with
  | none => true
  | some a => decide (a ∉ nkeys ns)
theorem free_iff {ns : Needs} {q : Qn} : free ns q = true ↔ ∀ a, ahead q = some a → a ∉ nkeys ns := by
  unfold free
  cases e : ahead q with
  | none => simp
  | some a => simp
noncomputable def rowOn (n : Nat) (ns : Needs) : Rw := ⟨n, ns, (nkeys ns).filter (free ns)⟩
noncomputable def less (ns : Needs) (q : Qn) : Needs := ns.filter fun e => decide (e.1 ≠ q)
noncomputable def rowAfter (r : Rw) (q : Qn) (a : At) : Rw :=
  ⟨r.num, less r.ns q, r.qs.take (r.qs.idxOf q) ++ (behind q a).filter (fun z => decide (z ∈ nkeys (less r.ns q))) ++ r.qs.drop (r.qs.idxOf q + 1)⟩
theorem mem_less {ns : Needs} {q : Qn} {e : Qn × At} : e ∈ less ns q ↔ e ∈ ns ∧ e.1 ≠ q := by
  unfold less
  rw [List.mem_filter, decide_eq_true_iff]
theorem keys_less {ns : Needs} {q z : Qn} : z ∈ nkeys (less ns q) ↔ z ∈ nkeys ns ∧ z ≠ q := by
  rw [mem_nkeys, mem_nkeys]
  constructor
  · rintro ⟨a, h⟩
    exact ⟨⟨a, (mem_less.mp h).1⟩, (mem_less.mp h).2⟩
  · rintro ⟨⟨a, h⟩, n⟩
    exact ⟨a, mem_less.mpr ⟨h, n⟩⟩
theorem nd_less {ns : Needs} {q : Qn} (h : (nkeys ns).Nodup) : (nkeys (less ns q)).Nodup := by
  unfold nkeys less at *
  exact List.Sublist.nodup (List.Sublist.map _ List.filter_sublist) h
structure RowOk (T : Needs) (r : Rw) : Prop where
  nd : (nkeys r.ns).Nodup
  fresh : ∀ q ∈ nkeys r.ns, q ∉ nkeys T
  kd : ∀ p a, (Qn.k p, a) ∈ r.ns → ∃ k : Kd, a = k.at
  up : ∀ p b a, (Qn.k (p ++ [b]), a) ∈ r.ns → (Qn.k p, Kd.p.at) ∈ r.ns ∨ (Qn.k p, Kd.p.at) ∈ T
  sm : ∀ p a, (Qn.s p, a) ∈ r.ns → (Qn.k p, a.va.kd.at) ∈ r.ns ∨ (Qn.k p, a.va.kd.at) ∈ T
  qnd : r.qs.Nodup
  qs : ∀ q, q ∈ r.qs ↔ q ∈ nkeys r.ns ∧ ∀ a, ahead q = some a → a ∉ nkeys r.ns
theorem take_drop_mem {α : Type} [DecidableEq α] {l : List α} {q z : α} (nd : l.Nodup) (hq : q ∈ l) : z ∈ l.take (l.idxOf q) ∨ z ∈ l.drop (l.idxOf q + 1) ↔ z ∈ l ∧ z ≠ q := by
  induction l with
  | nil => simp at hq
  | cons y r ih =>
    have hy := (List.nodup_cons.mp nd).1
    have hr := (List.nodup_cons.mp nd).2
    by_cases e : y = q
    · subst e
      rw [List.idxOf_cons_self]
      simp only [List.take_zero, List.not_mem_nil, false_or, List.drop_succ_cons, List.drop_zero, List.mem_cons]
      constructor
      · intro h; exact ⟨.inr h, fun z' => by subst z'; exact hy h⟩
      · rintro ⟨h | h, n⟩
        · exact absurd h n
        · exact h
    · have hq' : q ∈ r := by
        rcases List.mem_cons.mp hq with h | h
        · exact absurd h.symm e
        · exact h
      rw [show (y :: r).idxOf q = r.idxOf q + 1 by rw [List.idxOf_cons, beq_eq_false_iff_ne.mpr e]; rfl]
      simp only [List.take_succ_cons, List.mem_cons, List.drop_succ_cons]
      have ih' := ih hr hq'
      constructor
      · rintro ((h | h) | h)
        · subst h; exact ⟨.inl rfl, e⟩
        · have := ih'.mp (.inl h); exact ⟨.inr this.1, this.2⟩
        · have := ih'.mp (.inr h); exact ⟨.inr this.1, this.2⟩
      · rintro ⟨h | h, n⟩
        · exact .inl (.inl h)
        · rcases ih'.mpr ⟨h, n⟩ with h | h
          · exact .inl (.inr h)
          · exact .inr h
theorem after_mem {r : Rw} {q z : Qn} {a : At} (nd : r.qs.Nodup) (hq : q ∈ r.qs) : z ∈ (rowAfter r q a).qs ↔ (z ∈ r.qs ∧ z ≠ q) ∨ (z ∈ behind q a ∧ z ∈ nkeys (less r.ns q)) := by
  show z ∈ _ ++ _ ++ _ ↔ _
  rw [List.mem_append, List.mem_append, List.mem_filter, decide_eq_true_iff, ← take_drop_mem nd hq]
  constructor
  · rintro ((h | h) | h)
    · exact .inl (.inl h)
    · exact .inr h
    · exact .inl (.inr h)
  · rintro ((h | h) | h)
    · exact .inl (.inl h)
    · exact .inr h
    · exact .inl (.inr h)
theorem behind_nd (q : Qn) (a : At) : (behind q a).Nodup := by
  cases q with
  | s p => simp [behind]
  | k p =>
    rw [behind_k]
    split
    · simp
    · simp
theorem RowOk.after {T : Needs} {r : Rw} {q : Qn} {a : At} (h : RowOk T r) (hq : q ∈ r.qs) (ha : (q, a) ∈ r.ns) : RowOk ((q, a) :: T) (rowAfter r q a) where
  nd := nd_less h.nd
  fresh := fun z hz hT => by
    have hz' := keys_less.mp hz
    rcases List.mem_cons.mp (show z ∈ q :: nkeys T from hT) with e | hT
    · exact hz'.2 e
    · exact h.fresh z hz'.1 hT
  kd := fun p b hb => h.kd p b (mem_less.mp hb).1
  up := fun p b c hc => by
    rcases h.up p b c (mem_less.mp hc).1 with z | z
    · by_cases e : Qn.k p = q
      · right
        rw [e] at z ⊢
        rw [nd_fn h.nd z ha]
        exact List.mem_cons_self
      · exact .inl (mem_less.mpr ⟨z, e⟩)
    · exact .inr (List.mem_cons_of_mem _ z)
  sm := fun p c hc => by
    rcases h.sm p c (mem_less.mp hc).1 with z | z
    · by_cases e : Qn.k p = q
      · right
        rw [e] at z ⊢
        rw [nd_fn h.nd z ha]
        exact List.mem_cons_self
      · exact .inl (mem_less.mpr ⟨z, e⟩)
    · exact .inr (List.mem_cons_of_mem _ z)
  qnd := by
    have sp : ∀ z, z ∈ (behind q a).filter (fun z => decide (z ∈ nkeys (less r.ns q))) → z ∉ r.qs := fun z hz hz2 => by
      have h1 := behind_ahead (List.mem_filter.mp hz).1
      exact ((h.qs z).mp hz2).2 q h1 (in_nkeys ha)
    show List.Nodup (_ ++ _ ++ _)
    rw [List.nodup_append, List.nodup_append]
    have base : (r.qs.take (r.qs.idxOf q) ++ r.qs.drop (r.qs.idxOf q + 1)).Nodup := by
      have s1 : List.Sublist (r.qs.take (r.qs.idxOf q) ++ r.qs.drop (r.qs.idxOf q + 1)) (r.qs.take (r.qs.idxOf q) ++ r.qs.drop (r.qs.idxOf q)) :=
        List.Sublist.append (List.Sublist.refl _) (by rw [← List.drop_drop]; exact List.drop_sublist _ _)
      rw [List.take_append_drop] at s1
      exact s1.nodup h.qnd
    rw [List.nodup_append] at base
    refine ⟨⟨base.1, List.Sublist.nodup List.filter_sublist (behind_nd q a), fun x hx y hy e => ?_⟩, base.2.1, fun x hx y hy e => ?_⟩
    · subst e
      exact sp x hy (List.mem_of_mem_take hx)
    · subst e
      rcases List.mem_append.mp hx with hx | hx
      · exact base.2.2 x hx x hy rfl
      · exact sp x hx (List.mem_of_mem_drop hy)
  qs := fun z => by
    rw [after_mem h.qnd hq]
    show _ ↔ z ∈ nkeys (less r.ns q) ∧ ∀ b, ahead z = some b → b ∉ nkeys (less r.ns q)
    constructor
    · rintro (⟨h1, n⟩ | ⟨h1, h2⟩)
      · have h3 := (h.qs z).mp h1
        exact ⟨keys_less.mpr ⟨h3.1, n⟩, fun b hb z' => h3.2 b hb (keys_less.mp z').1⟩
      · refine ⟨h2, fun b hb z' => ?_⟩
        rw [behind_ahead h1] at hb
        cases hb
        exact (keys_less.mp z').2 rfl
    · rintro ⟨h1, h2⟩
      have h3 := keys_less.mp h1
      by_cases hb : ∃ b, ahead z = some b ∧ b ∈ nkeys r.ns
      · obtain ⟨b, hb1, hb2⟩ := hb
        have e : b = q := by
          by_cases e : b = q
          · exact e
          · exact absurd (keys_less.mpr ⟨hb2, e⟩) (h2 b hb1)
        subst e
        right
        refine ⟨?_, h1⟩
        obtain ⟨c, hc⟩ := mem_nkeys.mp h3.1
        cases z with
        | s p =>
          have e : b = .k p := by
            have := hb1; unfold ahead at this; exact (Option.some.inj this).symm
          subst e
          have ea : a = c.va.kd.at := by
            rcases h.sm p c hc with z | z
            · exact nd_fn h.nd ha z
            · exact absurd (in_nkeys z) (h.fresh _ hb2)
          rw [behind_k, if_neg (fun q => va_kd c (at_inj (ea.symm.trans q)))]
          exact List.mem_singleton.mpr rfl
        | k p =>
          by_cases hp : p = []
          · subst hp
            rw [ahead_k, if_pos rfl] at hb1
            cases hb1
          · have ep := (List.dropLast_concat_getLast hp).symm
            have e : b = .k p.dropLast := by
              rw [ahead_k, if_neg hp] at hb1
              exact (Option.some.inj hb1).symm
            subst e
            rw [ep] at hc
            have ea : a = Kd.p.at := by
              rcases h.up _ _ c hc with z | z
              · exact nd_fn h.nd ha z
              · exact absurd (in_nkeys z) (h.fresh _ hb2)
            rw [behind_k, if_pos ea]
            cases e2 : p.getLast hp with
            | false => rw [e2] at ep; exact List.mem_cons.mpr (.inl (congrArg Qn.k ep))
            | true => rw [e2] at ep; exact List.mem_cons.mpr (.inr (List.mem_singleton.mpr (congrArg Qn.k ep)))
      · left
        exact ⟨(h.qs z).mpr ⟨h3.1, fun b hb1 hb2 => hb ⟨b, hb1, hb2⟩⟩, h3.2⟩
theorem RowOk.stay {T : Needs} {r : Rw} {q : Qn} {a : At} (h : RowOk T r) (hq : q ∉ nkeys r.ns) : RowOk ((q, a) :: T) r where
  nd := h.nd
  fresh := fun z hz hT => by
    rcases List.mem_cons.mp (show z ∈ q :: nkeys T from hT) with e | hT
    · subst e; exact hq hz
    · exact h.fresh z hz hT
  kd := h.kd
  up := fun p b c hc => (h.up p b c hc).imp id (List.mem_cons_of_mem _)
  sm := fun p c hc => (h.sm p c hc).imp id (List.mem_cons_of_mem _)
  qnd := h.qnd
  qs := h.qs
theorem RowOk.ask {T : Needs} {r : Rw} (h : RowOk T r) (hn : r.ns ≠ []) : r.qs ≠ [] := by
  intro e
  have no : ∀ z, ¬ (z ∈ nkeys r.ns ∧ ∀ b, ahead z = some b → b ∉ nkeys r.ns) := fun z hz => by
    have := (h.qs z).mpr hz
    rw [e] at this
    simp at this
  have down : ∀ p : List Bool, Qn.k p ∉ nkeys r.ns := by
    refine snoc_ind' ?_ ?_
    · intro hz
      refine no _ ⟨hz, fun b hb => ?_⟩
      rw [ahead_k, if_pos rfl] at hb
      cases hb
    · intro p b ih hz
      refine no _ ⟨hz, fun c hc => ?_⟩
      rw [ahead_snoc] at hc
      cases hc
      exact ih
  cases hr : r.ns with
  | nil => exact hn hr
  | cons n t =>
    obtain ⟨q, a⟩ := n
    have hm : q ∈ nkeys r.ns := by rw [hr]; exact List.mem_cons_self
    cases q with
    | k p => exact down p hm
    | s p =>
      refine no _ ⟨hm, fun b hb => ?_⟩
      have : b = .k p := by unfold ahead at hb; exact (Option.some.inj hb).symm
      subst this
      exact down p
end ST
set_option Elab.async false
set_option linter.all false
set_option maxRecDepth 100000
set_option maxHeartbeats 4000000
namespace ST
open PySem
noncomputable def upTo : List Rw → List Rw
  | [] => []
  | r :: t => if r.ns = [] then [r] else r :: upTo t
theorem upTo_cons (r : Rw) (t : List Rw) : upTo (r :: t) = if r.ns = [] then [r] else r :: upTo t := rfl
theorem upTo_sub : ∀ l : List Rw, (upTo l).Sublist l
  | [] => List.Sublist.refl _
  | r :: t => by
    rw [upTo_cons]
    split
    · exact List.Sublist.cons_cons _ (List.nil_sublist _)
    · exact List.Sublist.cons_cons _ (upTo_sub t)
theorem upTo_full : ∀ {l : List Rw}, (∀ r ∈ upTo l, r.ns ≠ []) → upTo l = l
  | [], _ => rfl
  | r :: t, h => by
    rw [upTo_cons] at h ⊢
    by_cases e : r.ns = []
    · rw [if_pos e] at h
      exact absurd e (h r List.mem_cons_self)
    · rw [if_neg e] at h ⊢
      rw [upTo_full fun r' hr => h r' (List.mem_cons_of_mem _ hr)]
theorem upTo_idem : ∀ l : List Rw, upTo (upTo l) = upTo l
  | [] => rfl
  | r :: t => by
    rw [upTo_cons]
    by_cases e : r.ns = []
    · rw [if_pos e, upTo_cons, if_pos e]
    · rw [if_neg e, upTo_cons, if_neg e, upTo_idem t]
noncomputable def keep1 (q : Qn) (a : At) (r : Rw) : Option Rw := match look r.ns q with
  | none => some r
  | some b => if b = a then some (rowAfter r q a) else none
noncomputable def rowsAfter (rows : List Rw) (q : Qn) (a : At) : List Rw := upTo (rows.filterMap (keep1 q a))
theorem keep1_num {q : Qn} {a : At} {r r' : Rw} (h : keep1 q a r = some r') : r'.num = r.num := by
  unfold keep1 at h
  cases e : look r.ns q with
  | none => rw [e] at h; cases h; rfl
  | some b =>
    rw [e] at h
    have h' : (if b = a then some (rowAfter r q a) else none) = some r' := h
    by_cases z : b = a
    · rw [if_pos z] at h'; cases h'; rfl
    · rw [if_neg z] at h'; cases h'
theorem keep1_cases {q : Qn} {a : At} {r r' : Rw} (h : keep1 q a r = some r') : (q ∉ nkeys r.ns ∧ r' = r) ∨ ((q, a) ∈ r.ns ∧ r' = rowAfter r q a) := by
  unfold keep1 at h
  cases e : look r.ns q with
  | none => rw [e] at h; cases h; exact .inl ⟨look_none.mp e, rfl⟩
  | some b =>
    rw [e] at h
    have h' : (if b = a then some (rowAfter r q a) else none) = some r' := h
    by_cases z : b = a
    · rw [if_pos z] at h'; cases h'; subst z; exact .inr ⟨look_mem e, rfl⟩
    · rw [if_neg z] at h'; cases h'
theorem keep1_none {q : Qn} {a : At} {r : Rw} (h : keep1 q a r = none) : ∃ b, (q, b) ∈ r.ns ∧ b ≠ a := by
  unfold keep1 at h
  cases e : look r.ns q with
  | none => rw [e] at h; cases h
  | some b =>
    rw [e] at h
    have h' : (if b = a then some (rowAfter r q a) else none) = none := h
    by_cases z : b = a
    · rw [if_pos z] at h'; cases h'
    · exact ⟨b, look_mem e, z⟩
theorem fits_less {x : Va} {ns : Needs} {q : Qn} {a : At} (h : Fits x (less ns q)) (m : Meets x (q, a)) (fn : ∀ b, (q, b) ∈ ns → b = a) : Fits x ns := fun n hn => by
  by_cases e : n.1 = q
  · obtain ⟨z, b⟩ := n
    have e' : z = q := e
    subst e'
    rw [fn b hn]
    exact m
  · exact h n (mem_less.mpr ⟨hn, e⟩)
theorem less_len {ns : Needs} {q : Qn} : (less ns q).length ≤ ns.length := List.length_filter_le _ _
theorem less_lt {ns : Needs} {q : Qn} (h : q ∈ nkeys ns) : (less ns q).length < ns.length := by
  obtain ⟨a, ha⟩ := mem_nkeys.mp h
  unfold less
  induction ns with
  | nil => simp at ha
  | cons n t ih =>
    rw [List.filter_cons]
    rcases List.mem_cons.mp ha with e | ha'
    · subst e
      simp only [ne_eq, not_true, decide_false, Bool.false_eq_true, if_false]
      have : (t.filter fun e => decide (e.1 ≠ q)).length ≤ t.length := List.length_filter_le _ _
      exact Nat.lt_succ_of_le this
    · have ih' := ih (in_nkeys ha') ha'
      split
      · exact Nat.succ_lt_succ ih'
      · exact Nat.lt_succ_of_lt ih'
noncomputable def tot (rows : List Rw) : Nat := (rows.map fun r => r.ns.length).sum
theorem tot_cons (r : Rw) (t : List Rw) : tot (r :: t) = r.ns.length + tot t := by simp [tot]
theorem tot_upTo : ∀ l : List Rw, tot (upTo l) ≤ tot l
  | [] => Nat.le_refl _
  | r :: t => by
    rw [upTo_cons]
    split
    · rw [tot_cons, tot_cons]; exact Nat.add_le_add_left (Nat.zero_le _) _
    · rw [tot_cons, tot_cons]; exact Nat.add_le_add_left (tot_upTo t) _
theorem tot_keep (q : Qn) (a : At) : ∀ l : List Rw, tot (l.filterMap (keep1 q a)) ≤ tot l ∧ ((∃ r ∈ l, q ∈ nkeys r.ns) → tot (l.filterMap (keep1 q a)) < tot l)
  | [] => ⟨Nat.le_refl _, fun ⟨r, hr, _⟩ => by simp at hr⟩
  | r :: t => by
    have ih := tot_keep q a t
    rw [List.filterMap_cons, tot_cons]
    cases e : keep1 q a r with
    | none =>
      obtain ⟨b, hb, _⟩ := keep1_none e
      have h1 : 0 < r.ns.length := List.length_pos_of_mem hb
      exact ⟨by have := ih.1; show tot (t.filterMap (keep1 q a)) ≤ _; omega, fun _ => by have := ih.1; show tot (t.filterMap (keep1 q a)) < _; omega⟩
    | some r' =>
      show tot (r' :: _) ≤ _ ∧ (_ → tot (r' :: _) < _)
      rw [tot_cons]
      rcases keep1_cases e with ⟨h1, rfl⟩ | ⟨h1, rfl⟩
      · refine ⟨by have := ih.1; omega, ?_⟩
        rintro ⟨r2, hr2, hq⟩
        rcases List.mem_cons.mp hr2 with z | z
        · subst z; exact absurd hq h1
        · have := ih.2 ⟨r2, z, hq⟩; omega
      · have h2 : (rowAfter r q a).ns.length < r.ns.length := less_lt (in_nkeys h1)
        have := ih.1
        exact ⟨by omega, fun _ => by omega⟩
theorem tot_after {rows : List Rw} {q : Qn} {a : At} (h : ∃ r ∈ rows, q ∈ nkeys r.ns) : tot (rowsAfter rows q a) < tot rows := Nat.lt_of_le_of_lt (tot_upTo _) ((tot_keep q a rows).2 h)
structure Road (T : Needs) (rows : List Rw) : Prop where
  cl : Closed T
  ok : ∀ r ∈ rows, RowOk T r
  up : upTo rows = rows
  nums : (rows.map Rw.num).Nodup
noncomputable def Kinds (rows : List Rw) : Prop := ∀ r ∈ rows, ∀ q ∈ nkeys r.ns, ∃ p, q = Qn.k p
theorem keep_nums (q : Qn) (a : At) : ∀ l : List Rw, ((l.filterMap (keep1 q a)).map Rw.num).Sublist (l.map Rw.num)
  | [] => List.Sublist.refl _
  | r :: t => by
    rw [List.filterMap_cons]
    cases e : keep1 q a r with
    | none => exact List.Sublist.cons _ (keep_nums q a t)
    | some r' =>
      show ((r' :: _).map Rw.num).Sublist _
      rw [List.map_cons, List.map_cons, keep1_num e]
      exact List.Sublist.cons_cons _ (keep_nums q a t)
theorem mem_after {rows : List Rw} {q : Qn} {a : At} {r' : Rw} (h : r' ∈ rowsAfter rows q a) : ∃ r ∈ rows, keep1 q a r = some r' := List.mem_filterMap.mp ((upTo_sub _).subset h)
theorem Road.closed {T : Needs} {rows : List Rw} {p : List Bool} {w : Kd} (R : Road T rows) {r : Rw} (hr : r ∈ rows) (hq : Qn.k p ∈ r.qs) : Closed ((Qn.k p, w.at) :: T) := by
  have ok := R.ok r hr
  have hk := (ok.qs _).mp hq
  have fr := ok.fresh _ hk.1
  refine ⟨fun p' a h => ?_, fun p' b a h => ?_, fun p' a h => ?_, fun q a b h1 h2 => ?_⟩
  · rcases List.mem_cons.mp h with e | h
    · cases e; exact ⟨w, rfl⟩
    · exact R.cl.kd _ _ h
  · refine List.mem_cons_of_mem _ ?_
    rcases List.mem_cons.mp h with e | h
    · injection e with e1 e2
      injection e1 with e1
      subst e1
      obtain ⟨c, hc⟩ := mem_nkeys.mp hk.1
      rcases ok.up _ _ _ hc with z | z
      · exact absurd (in_nkeys z) (hk.2 _ (ahead_snoc _ _))
      · exact z
    · exact R.cl.up _ _ _ h
  · refine List.mem_cons_of_mem _ ?_
    rcases List.mem_cons.mp h with e | h
    · cases e
    · exact R.cl.sm _ _ h
  · rcases List.mem_cons.mp h1 with e1 | h1' <;> rcases List.mem_cons.mp h2 with e2 | h2'
    · rw [← e1] at e2; exact ((Prod.mk.inj e2).2).symm
    · cases e1; exact absurd (in_nkeys h2') fr
    · cases e2; exact absurd (in_nkeys h1') fr
    · exact R.cl.fn _ _ _ h1' h2'
theorem Road.askable {T : Needs} {rows : List Rw} {q : Qn} (R : Road T rows) {r r2 : Rw} (hr : r ∈ rows) (hq : q ∈ r.qs) (h2 : r2 ∈ rows) (hk : q ∈ nkeys r2.ns) : q ∈ r2.qs := by
  have ok := R.ok r hr
  have ok2 := R.ok r2 h2
  have hq' := (ok.qs _).mp hq
  refine (ok2.qs q).mpr ⟨hk, fun a ha => ?_⟩
  obtain ⟨c, hc⟩ := mem_nkeys.mp hq'.1
  cases q with
  | s p =>
    have e : a = .k p := (Option.some.inj (show some (Qn.k p) = some a from ha)).symm
    subst e
    rcases ok.sm _ _ hc with z | z
    · exact absurd (in_nkeys z) (hq'.2 _ rfl)
    · exact fun z2 => ok2.fresh _ z2 (in_nkeys z)
  | k p =>
    by_cases hp : p = []
    · subst hp
      rw [ahead_k, if_pos rfl] at ha
      cases ha
    · have ep := (List.dropLast_concat_getLast hp).symm
      have e : a = .k p.dropLast := by
        rw [ahead_k, if_neg hp] at ha
        exact (Option.some.inj ha).symm
      subst e
      rw [ep] at hc
      rcases ok.up _ _ _ hc with z | z
      · exact absurd (in_nkeys z) (hq'.2 _ (by rw [ahead_k, if_neg hp]))
      · exact fun z2 => ok2.fresh _ z2 (in_nkeys z)
theorem Road.after {T : Needs} {rows : List Rw} {q : Qn} {a : At} (R : Road T rows) (C : Closed ((q, a) :: T)) {r : Rw} (hr : r ∈ rows) (hq : q ∈ r.qs) : Road ((q, a) :: T) (rowsAfter rows q a) where
  cl := C
  ok := fun r' hr' => by
    obtain ⟨r2, h2, e⟩ := mem_after hr'
    rcases keep1_cases e with ⟨h1, rfl⟩ | ⟨h1, rfl⟩
    · exact (R.ok _ h2).stay h1
    · exact (R.ok _ h2).after (R.askable hr hq h2 (in_nkeys h1)) h1
  up := upTo_idem _
  nums := List.Sublist.nodup (((upTo_sub _).map _).trans (keep_nums q a rows)) R.nums
theorem Kinds.after {rows : List Rw} {q : Qn} {a : At} (h : Kinds rows) : Kinds (rowsAfter rows q a) := fun r' hr' z hz => by
  obtain ⟨r2, h2, e⟩ := mem_after hr'
  rcases keep1_cases e with ⟨h1, rfl⟩ | ⟨h1, rfl⟩
  · exact h _ h2 z hz
  · exact h _ h2 z (keys_less.mp hz).1
noncomputable def Blocks (T : Needs) (rows : List Rw) (S : Nat → Prop) : Prop := ∀ x, Fits x T → ∃ r ∈ rows, S r.num ∧ Fits x r.ns
structure Lets (T : Needs) (rows : List Rw) (N : Needs) : Prop where
  cl : Closed (N ++ T)
  nd : (nkeys N).Nodup
  fr : ∀ q ∈ nkeys N, q ∉ nkeys T
  src : ∀ q ∈ nkeys N, ∃ r ∈ rows, q ∈ nkeys r.ns
  no : ∀ x, Fits x (N ++ T) → ∀ r ∈ rows, ¬ Fits x r.ns
theorem Closed.congr {A B : Needs} (h : Closed A) (e : ∀ n, n ∈ A ↔ n ∈ B) : Closed B :=
  ⟨fun p a m => h.kd p a ((e _).mpr m), fun p b a m => (e _).mp (h.up p b a ((e _).mpr m)), fun p a m => (e _).mp (h.sm p a ((e _).mpr m)), fun q a b m1 m2 => h.fn q a b ((e _).mpr m1) ((e _).mpr m2)⟩
theorem Fits.congr {x : Va} {A B : Needs} (h : Fits x A) (e : ∀ n, n ∈ B → n ∈ A) : Fits x B := fun n m => h n (e n m)
theorem lets_nil {T : Needs} (C : Closed T) : Lets T [] [] := ⟨C, List.nodup_nil, fun q h => by simp [nkeys] at h, fun q h => by simp [nkeys] at h, fun x _ r h => by simp at h⟩
theorem mem_move {n e : Qn × At} {N T : Needs} : n ∈ N ++ e :: T ↔ n ∈ (N ++ [e]) ++ T := by simp
theorem Lets.step {T N : Needs} {rows : List Rw} {q : Qn} {a : At} (R : Road T rows) (h : Lets ((q, a) :: T) (rowsAfter rows q a) N) {r : Rw} (hr : r ∈ rows) (hq : q ∈ r.qs) : Lets T rows (N ++ [(q, a)]) where
  cl := h.cl.congr fun n => mem_move
  nd := nd_app h.nd (by simp [nkeys]) fun z h1 h2 => by
    have e : z = q := by simpa [nkeys] using h2
    subst e
    exact h.fr z h1 List.mem_cons_self
  fr := fun z hz hT => by
    obtain ⟨b, hb⟩ := mem_nkeys.mp hz
    rcases List.mem_append.mp hb with hb | hb
    · exact h.fr z (in_nkeys hb) (List.mem_cons_of_mem _ hT)
    · have e : z = q := (Prod.mk.inj (List.mem_singleton.mp hb)).1
      subst e
      exact (R.ok r hr).fresh _ (((R.ok r hr).qs _).mp hq).1 hT
  src := fun z hz => by
    obtain ⟨b, hb⟩ := mem_nkeys.mp hz
    rcases List.mem_append.mp hb with hb | hb
    · obtain ⟨r', hr', hz'⟩ := h.src z (in_nkeys hb)
      obtain ⟨r2, h2, e⟩ := mem_after hr'
      rcases keep1_cases e with ⟨_, rfl⟩ | ⟨_, rfl⟩
      · exact ⟨_, h2, hz'⟩
      · exact ⟨_, h2, (keys_less.mp hz').1⟩
    · have e : z = q := (Prod.mk.inj (List.mem_singleton.mp hb)).1
      subst e
      exact ⟨r, hr, (((R.ok r hr).qs _).mp hq).1⟩
  no := fun x hx r2 h2 f2 => by
    have hx' : Fits x (N ++ (q, a) :: T) := hx.congr fun n => mem_move.mp
    have no := h.no x hx'
    have full : rowsAfter rows q a = rows.filterMap (keep1 q a) := upTo_full fun r' hr' z => no r' hr' (by rw [z]; exact fits_nil x)
    have mq : Meets x (q, a) := hx' _ (List.mem_append_right _ List.mem_cons_self)
    cases e : keep1 q a r2 with
    | none =>
      obtain ⟨b, hb, hne⟩ := keep1_none e
      exact hne (meets_fn (f2 _ hb) mq)
    | some r' =>
      have hm : r' ∈ rowsAfter rows q a := by rw [full]; exact List.mem_filterMap.mpr ⟨r2, h2, e⟩
      refine no r' hm ?_
      rcases keep1_cases e with ⟨_, rfl⟩ | ⟨_, rfl⟩
      · exact f2
      · exact fun n hn => f2 n (mem_less.mp hn).1
theorem stands {T : Needs} {rows : List Rw} {p : List Bool} (R : Road T rows) {r : Rw} (hr : r ∈ rows) (hq : Qn.k p ∈ r.qs) {x : Va} (hx : Fits x T) : ∃ y, partAt x p = some y := by
  have ok := R.ok r hr
  have hk := (ok.qs _).mp hq
  by_cases hp : p = []
  · subst hp; exact ⟨x, partAt_nil x⟩
  · have ep := (List.dropLast_concat_getLast hp).symm
    obtain ⟨c, hc⟩ := mem_nkeys.mp hk.1
    rw [ep] at hc
    rcases ok.up _ _ _ hc with z | z
    · exact absurd (in_nkeys z) (hk.2 _ (by rw [ahead_k, if_neg hp]))
    · obtain ⟨y, h1, h2⟩ := hx _ z
      cases y with
      | pr l m => exact ⟨_, by rw [ep]; exact partAt_pair h1 _⟩
      | int i => exact absurd (at_inj h2) (fun z => nomatch z)
      | str i => exact absurd (at_inj h2) (fun z => nomatch z)
theorem Blocks.back {T : Needs} {rows : List Rw} {q : Qn} {a : At} {S : Nat → Prop} (R : Road T rows) {x : Va} (hx : Fits x T) (mq : Meets x (q, a)) (h : Blocks ((q, a) :: T) (rowsAfter rows q a) S) : ∃ r ∈ rows, S r.num ∧ Fits x r.ns := by
  obtain ⟨r', hr', hS, hf⟩ := h x (fits_cons.mpr ⟨mq, hx⟩)
  obtain ⟨r2, h2, e⟩ := mem_after hr'
  rw [keep1_num e] at hS
  refine ⟨r2, h2, hS, ?_⟩
  rcases keep1_cases e with ⟨_, rfl⟩ | ⟨h1, rfl⟩
  · exact hf
  · exact fits_less hf mq fun b hb => nd_fn (R.ok _ h2).nd hb h1
theorem Blocks.all {T : Needs} {rows : List Rw} {p : List Bool} {S : Nat → Prop} (R : Road T rows) {r : Rw} (hr : r ∈ rows) (hq : Qn.k p ∈ r.qs) (h : ∀ w : Kd, Blocks ((Qn.k p, w.at) :: T) (rowsAfter rows (.k p) w.at) S) : Blocks T rows S := fun x hx => by
  obtain ⟨y, hy⟩ := stands R hr hq hx
  exact Blocks.back (q := .k p) (a := y.kd.at) R hx (show Meets x (.k p, y.kd.at) from ⟨y, hy, rfl⟩) (h y.kd)
theorem Blocks.mono {T : Needs} {rows : List Rw} {S S' : Nat → Prop} (h : Blocks T rows S) (i : ∀ n, S n → S' n) : Blocks T rows S' := fun x hx => by
  obtain ⟨r, h1, h2, h3⟩ := h x hx
  exact ⟨r, h1, i _ h2, h3⟩
noncomputable def setAt : Va → List Bool → Va → Va
  | _, [], y => y
  | .pr l m, b :: r, y => if b = true then .pr l (setAt m r y) else .pr (setAt l r y) m
  | x, _ :: _, _ => x
theorem part_set_self : ∀ {p : List Bool} {x z : Va} (y : Va), partAt x p = some z → partAt (setAt x p y) p = some y
  | [], x, z, y, h => by rw [show setAt x [] y = y by cases x <;> rfl]; exact partAt_nil y
  | b :: r, x, z, y, h => by
    cases x with
    | pr l m =>
      have h' : partAt (if b = true then m else l) r = some z := h
      cases b with
      | true => exact part_set_self (x := m) y h'
      | false => exact part_set_self (x := l) y h'
    | int i => cases h
    | str i => cases h
theorem part_set_other : ∀ {p p' : List Bool} {x z : Va} (y : Va), partAt x p = some z → (∀ r, p' ≠ p ++ r) →
    (∃ l m l' m', partAt x p' = some (.pr l m) ∧ partAt (setAt x p y) p' = some (.pr l' m')) ∨ partAt (setAt x p y) p' = partAt x p'
  | [], p', x, z, y, h, hn => absurd rfl (hn p')
  | b :: r, p', x, z, y, h, hn => by
    cases x with
    | pr l m =>
      have h' : partAt (if b = true then m else l) r = some z := h
      cases p' with
      | nil =>
        left
        cases b with
        | true => exact ⟨l, m, _, _, rfl, rfl⟩
        | false => exact ⟨l, m, _, _, rfl, rfl⟩
      | cons c t =>
        by_cases e : c = b
        · subst e
          have hn' : ∀ r', t ≠ r ++ r' := fun r' q => hn r' (by rw [q]; rfl)
          cases c with
          | true => exact part_set_other (x := m) y h' hn'
          | false => exact part_set_other (x := l) y h' hn'
        · right
          cases b with
          | true => cases c with
            | true => exact absurd rfl e
            | false => rfl
          | false => cases c with
            | true => rfl
            | false => exact absurd rfl e
    | int i => cases h
    | str i => cases h
theorem meets_set {p : List Bool} {x z : Va} (y : Va) (h : partAt x p = some z) {n : Qn × At} (hn : ∀ r, n.1.pl ≠ p ++ r) : Meets (setAt x p y) n ↔ Meets x n := by
  obtain ⟨q, a⟩ := n
  cases q with
  | k p' =>
    rcases part_set_other y h hn with ⟨l, m, l', m', e1, e2⟩ | e
    · constructor
      · rintro ⟨u, hu, rfl⟩
        have hu' : some _ = some u := e2.symm.trans hu
        cases hu'
        exact ⟨_, e1, rfl⟩
      · rintro ⟨u, hu, rfl⟩
        have hu' : some _ = some u := e1.symm.trans hu
        cases hu'
        exact ⟨_, e2, rfl⟩
    · have e' : partAt (setAt x p y) p' = partAt x p' := e
      show (∃ u, partAt (setAt x p y) p' = some u ∧ _) ↔ _
      rw [e']
      exact Iff.rfl
  | s p' =>
    rcases part_set_other y h hn with ⟨l, m, l', m', e1, e2⟩ | e
    · constructor
      · intro hu
        have hu' : some _ = some a.va := e2.symm.trans hu
        exact absurd (show a.va.kd = .p by rw [← Option.some.inj hu']; rfl) (va_kd a)
      · intro hu
        have hu' : some _ = some a.va := e1.symm.trans hu
        exact absurd (show a.va.kd = .p by rw [← Option.some.inj hu']; rfl) (va_kd a)
    · have e' : partAt (setAt x p y) p' = partAt x p' := e
      show partAt (setAt x p y) p' = _ ↔ _
      rw [e']
      exact Iff.rfl
theorem below_T {T : Needs} (C : Closed T) {p : List Bool} (h : Qn.k p ∉ nkeys T) : ∀ t : List Bool, Qn.k (p ++ t) ∉ nkeys T := by
  refine snoc_ind' ?_ ?_
  · rw [List.append_nil]; exact h
  · intro t b ih z
    obtain ⟨a, ha⟩ := mem_nkeys.mp z
    rw [← List.append_assoc] at ha
    exact ih (in_nkeys (C.up _ _ _ ha))
theorem below_T' {T : Needs} (C : Closed T) {p : List Bool} (h : Qn.k p ∉ nkeys T) {n : Qn × At} (hn : n ∈ T) (r : List Bool) : n.1.pl ≠ p ++ r := fun e => by
  obtain ⟨q, a⟩ := n
  cases q with
  | k p' =>
    have e' : p' = p ++ r := e
    subst e'
    exact below_T C h r (in_nkeys hn)
  | s p' =>
    have e' : p' = p ++ r := e
    subst e'
    exact below_T C h r (in_nkeys (C.sm _ _ hn))
theorem below_row {T : Needs} (C : Closed T) {r : Rw} (ok : RowOk T r) {p : List Bool} (hT : Qn.k p ∉ nkeys T) (h : Qn.k p ∉ nkeys r.ns) : ∀ t : List Bool, Qn.k (p ++ t) ∉ nkeys r.ns := by
  refine snoc_ind' ?_ ?_
  · rw [List.append_nil]; exact h
  · intro t b ih z
    obtain ⟨a, ha⟩ := mem_nkeys.mp z
    rw [← List.append_assoc] at ha
    rcases ok.up _ _ _ ha with z | z
    · exact ih (in_nkeys z)
    · exact below_T C hT t (in_nkeys z)
theorem below_row' {T : Needs} (C : Closed T) {r : Rw} (ok : RowOk T r) {p : List Bool} (hT : Qn.k p ∉ nkeys T) (h : Qn.k p ∉ nkeys r.ns) {n : Qn × At} (hn : n ∈ r.ns) (t : List Bool) : n.1.pl ≠ p ++ t := fun e => by
  obtain ⟨q, a⟩ := n
  cases q with
  | k p' =>
    have e' : p' = p ++ t := e
    subst e'
    exact below_row C ok hT h t (in_nkeys hn)
  | s p' =>
    have e' : p' = p ++ t := e
    subst e'
    rcases ok.sm _ _ hn with z | z
    · exact below_row C ok hT h t (in_nkeys z)
    · exact below_T C hT t (in_nkeys z)
noncomputable def someVa : Kd → Va
  | .n => .int 0
  | .t => .str ""
  | .p => .pr (.int 0) (.int 0)
theorem someVa_kd (k : Kd) : (someVa k).kd = k := by cases k <;> rfl
theorem Blocks.short {T : Needs} {rows : List Rw} {p : List Bool} {w : Kd} {S : Nat → Prop} (R : Road T rows) {r : Rw} (hr : r ∈ rows) (hq : Qn.k p ∈ r.qs) (h : Blocks ((Qn.k p, w.at) :: T) (rowsAfter rows (.k p) w.at) S)
    (hS : ∀ r ∈ rows, S r.num → Qn.k p ∉ nkeys r.ns) : Blocks T rows S := fun x hx => by
  obtain ⟨z, hz⟩ := stands R hr hq hx
  have fr : Qn.k p ∉ nkeys T := (R.ok r hr).fresh _ (((R.ok r hr).qs _).mp hq).1
  have hx' : Fits (setAt x p (someVa w)) T := fun n hn => (meets_set _ hz (below_T' R.cl fr hn)).mpr (hx n hn)
  obtain ⟨r2, h2, hs, hf⟩ := Blocks.back (q := .k p) (a := w.at) R hx' (show Meets _ (.k p, w.at) from ⟨someVa w, part_set_self _ hz, by rw [someVa_kd]⟩) h
  exact ⟨r2, h2, hs, fun n hn => (meets_set _ hz (below_row' R.cl (R.ok r2 h2) fr (hS r2 h2 hs) hn)).mp (hf n hn)⟩
noncomputable def agree (met : Needs) (n : Qn × At) : Bool := match look met n.1 with
  | none => true
  | some b => decide (b = n.2)
noncomputable def beside (ns met : Needs) : Option Needs := if ns.all (agree met) = true then some (ns.filter fun n => (look met n.1).isNone) else none
noncomputable def both (one two : Needs) : Option Needs := (beside two one).map (one ++ ·)
noncomputable def kindsOnly (ns : Needs) : Bool := ns.all fun n => match n.1 with
  | .k _ => true
  | .s _ => false
noncomputable def besideRow (rn : List Needs) (met : Needs) (i : Nat) : Option Rw := match (rn[i]?).bind fun ns => beside ns met with
  | none => none
  | some l => if kindsOnly l = true then some (rowOn i l) else none
noncomputable def rowsBeside (rn : List Needs) (met : Needs) : List Rw := upTo ((List.range rn.length).filterMap (besideRow rn met))
theorem agree_iff {met : Needs} {n : Qn × At} : agree met n = true ↔ ∀ b, look met n.1 = some b → b = n.2 := by
  unfold agree
  cases e : look met n.1 with
  | none => simp
  | some b => simp
theorem beside_some {ns met l : Needs} (h : beside ns met = some l) : (∀ n ∈ ns, ∀ b, look met n.1 = some b → b = n.2) ∧ ∀ n, n ∈ l ↔ n ∈ ns ∧ n.1 ∉ nkeys met := by
  unfold beside at h
  by_cases e : ns.all (agree met) = true
  · rw [if_pos e] at h
    cases h
    refine ⟨fun n hn => agree_iff.mp (List.all_eq_true.mp e n hn), fun n => ?_⟩
    rw [List.mem_filter, Option.isNone_iff_eq_none, look_none]
  · rw [if_neg e] at h; cases h
theorem beside_none {ns met : Needs} (h : beside ns met = none) : ∃ n ∈ ns, ∃ b, (n.1, b) ∈ met ∧ b ≠ n.2 := by
  unfold beside at h
  by_cases e : ns.all (agree met) = true
  · rw [if_pos e] at h; cases h
  · have e' : ¬ ∀ n ∈ ns, agree met n = true := fun z => e (List.all_eq_true.mpr z)
    refine Classical.byContradiction fun hc => e' fun n hn => agree_iff.mpr fun b hb => ?_
    refine Classical.byContradiction fun hne => hc ⟨n, hn, b, look_mem hb, hne⟩
theorem nd_filter {ns : Needs} {f : Qn × At → Bool} (h : (nkeys ns).Nodup) : (nkeys (ns.filter f)).Nodup := by
  unfold nkeys at *
  exact List.Sublist.nodup (List.Sublist.map _ List.filter_sublist) h
theorem beside_nd {ns met l : Needs} (h : beside ns met = some l) (nd : (nkeys ns).Nodup) : (nkeys l).Nodup := by
  unfold beside at h
  by_cases e : ns.all (agree met) = true
  · rw [if_pos e] at h
    cases h
    exact nd_filter nd
  · rw [if_neg e] at h; cases h
theorem rowOk_on {ns met l : Needs} (C : Closed ns) (nd : (nkeys ns).Nodup) (h : beside ns met = some l) (i : Nat) : RowOk met (rowOn i l) := by
  obtain ⟨ag, hl⟩ := beside_some h
  have ndl := beside_nd h nd
  have back : ∀ {q : Qn} {a : At}, (q, a) ∈ ns → (q, a) ∈ l ∨ (q, a) ∈ met := fun {q a} hn => by
    by_cases e : q ∈ nkeys met
    · obtain ⟨b, hb⟩ := look_some e
      have := ag _ hn b hb
      right
      have hm := look_mem hb
      rw [this] at hm
      exact hm
    · exact .inl ((hl _).mpr ⟨hn, e⟩)
  refine ⟨ndl, fun q hq => ?_, fun p a ha => C.kd p a ((hl _).mp ha).1, fun p b a ha => back (C.up p b a ((hl _).mp ha).1), fun p a ha => back (C.sm p a ((hl _).mp ha).1), ?_, fun q => ?_⟩
  · obtain ⟨a, ha⟩ := mem_nkeys.mp hq
    exact ((hl _).mp ha).2
  · exact List.Sublist.nodup List.filter_sublist ndl
  · show q ∈ (nkeys l).filter (free l) ↔ _
    rw [List.mem_filter, free_iff]
    exact Iff.rfl
theorem besideRow_some {rn : List Needs} {met : Needs} {i : Nat} {r : Rw} (h : besideRow rn met i = some r) : ∃ ns l, rn[i]? = some ns ∧ beside ns met = some l ∧ kindsOnly l = true ∧ r = rowOn i l := by
  unfold besideRow at h
  cases e1 : rn[i]? with
  | none => rw [e1] at h; cases h
  | some ns =>
    rw [e1] at h
    have h' : (match beside ns met with | none => none | some l => if kindsOnly l = true then some (rowOn i l) else none) = some r := h
    cases e2 : beside ns met with
    | none => rw [e2] at h'; cases h'
    | some l =>
      rw [e2] at h'
      have h2 : (if kindsOnly l = true then some (rowOn i l) else none) = some r := h'
      by_cases e3 : kindsOnly l = true
      · rw [if_pos e3] at h2
        exact ⟨ns, l, rfl, e2, e3, (Option.some.inj h2).symm⟩
      · rw [if_neg e3] at h2; cases h2
theorem besideRow_of {rn : List Needs} {met ns l : Needs} {i : Nat} (h1 : rn[i]? = some ns) (h2 : beside ns met = some l) (h3 : kindsOnly l = true) : besideRow rn met i = some (rowOn i l) := by
  unfold besideRow
  rw [h1]
  show (match beside ns met with | none => none | some l => if kindsOnly l = true then some (rowOn i l) else none) = _
  rw [h2]
  show (if kindsOnly l = true then some (rowOn i l) else none) = _
  rw [if_pos h3]
theorem kindsOnly_iff {ns : Needs} : kindsOnly ns = true ↔ ∀ q ∈ nkeys ns, ∃ p, q = Qn.k p := by
  unfold kindsOnly
  rw [List.all_eq_true]
  constructor
  · intro h q hq
    obtain ⟨a, ha⟩ := mem_nkeys.mp hq
    have := h _ ha
    cases q with
    | k p => exact ⟨p, rfl⟩
    | s p => cases this
  · intro h n hn
    obtain ⟨p, e⟩ := h n.1 (in_nkeys hn)
    rw [e]
noncomputable def RN (rn : List Needs) : Prop := ∀ ns ∈ rn, Closed ns ∧ (nkeys ns).Nodup
theorem num_range {rn : List Needs} {met : Needs} : ∀ l : List Nat, ((l.filterMap (besideRow rn met)).map Rw.num).Sublist l
  | [] => List.Sublist.refl _
  | i :: t => by
    rw [List.filterMap_cons]
    cases e : besideRow rn met i with
    | none => exact List.Sublist.cons _ (num_range t)
    | some r =>
      obtain ⟨ns, l, _, _, _, rfl⟩ := besideRow_some e
      exact List.Sublist.cons_cons _ (num_range t)
theorem road_beside {rn : List Needs} {met : Needs} (h : RN rn) (C : Closed met) : Road met (rowsBeside rn met) ∧ Kinds (rowsBeside rn met) := by
  have get : ∀ r ∈ rowsBeside rn met, ∃ i ns l, rn[i]? = some ns ∧ beside ns met = some l ∧ kindsOnly l = true ∧ r = rowOn i l := fun r hr => by
    obtain ⟨i, _, e⟩ := List.mem_filterMap.mp ((upTo_sub _).subset hr)
    obtain ⟨ns, l, h1, h2, h3, h4⟩ := besideRow_some e
    exact ⟨i, ns, l, h1, h2, h3, h4⟩
  refine ⟨⟨C, fun r hr => ?_, upTo_idem _, List.Sublist.nodup (((upTo_sub _).map _).trans (num_range _)) List.nodup_range⟩, fun r hr => ?_⟩
  · obtain ⟨i, ns, l, h1, h2, h3, rfl⟩ := get r hr
    have := h ns (List.mem_of_getElem? h1)
    exact rowOk_on this.1 this.2 h2 i
  · obtain ⟨i, ns, l, h1, h2, h3, rfl⟩ := get r hr
    exact kindsOnly_iff.mp h3
theorem past_none {rn : List Needs} {met : Needs} {S : Nat → Prop} (h : Blocks met (rowsBeside rn met) S) {x : Va} (hx : Fits x met) : ∃ (i : Nat) (ns : Needs), rn[i]? = some ns ∧ Fits x ns := by
  obtain ⟨r, hr, _, hf⟩ := h x hx
  obtain ⟨i, _, e⟩ := List.mem_filterMap.mp ((upTo_sub _).subset hr)
  obtain ⟨ns, l, h1, h2, h3, rfl⟩ := besideRow_some e
  obtain ⟨ag, hl⟩ := beside_some h2
  refine ⟨i, ns, h1, fun n hn => ?_⟩
  by_cases e : n.1 ∈ nkeys met
  · obtain ⟨b, hb⟩ := look_some e
    have hb' := ag n hn b hb
    have z := hx _ (look_mem hb)
    rw [hb'] at z
    exact z
  · exact hf n ((hl n).mpr ⟨hn, e⟩)
theorem past_some {rn : List Needs} {met N : Needs} {sn : Int} {st : Str} {M : Nat} (hrn : RN rn) (h : Lets met (rowsBeside rn met) N) (hK : Kinds (rowsBeside rn met)) (hM : ∀ q ∈ nkeys (met ++ N), q.pl.length ≤ M)
    (hs : ∀ ns ∈ rn, ∀ p a, (Qn.s p, a) ∈ ns → a ≠ .int sn ∧ a ≠ .str st) : Fits (build (met ++ N) sn st M []) met ∧ ∀ (i : Nat) (ns : Needs), rn[i]? = some ns → ¬ Fits (build (met ++ N) sn st M []) ns := by
  have C : Closed (met ++ N) := h.cl.congr fun n => by rw [List.mem_append, List.mem_append]; exact Or.comm
  have f := build_fits (sn := sn) (st := st) C hM
  have f1 := (fits_app.mp f).1
  refine ⟨f1, fun i ns hi hf => ?_⟩
  have no := h.no _ (fits_app.mpr ⟨(fits_app.mp f).2, f1⟩)
  have full : rowsBeside rn met = (List.range rn.length).filterMap (besideRow rn met) := upTo_full fun r' hr' z => no r' hr' (by rw [z]; exact fits_nil _)
  cases e : beside ns met with
  | none =>
    obtain ⟨n, hn, b, hb, hne⟩ := beside_none e
    exact hne (meets_fn (f1 _ hb) (hf n hn))
  | some l =>
    obtain ⟨ag, hl⟩ := beside_some e
    by_cases hk : kindsOnly l = true
    · have hm : rowOn i l ∈ rowsBeside rn met := by
        rw [full]
        exact List.mem_filterMap.mpr ⟨i, List.mem_range.mpr (List.getElem?_eq_some_iff.mp hi).1, besideRow_of hi e hk⟩
      exact no _ hm fun n hn => hf n ((hl n).mp hn).1
    · have hk' : ¬ ∀ q ∈ nkeys l, ∃ p, q = Qn.k p := fun z => hk (kindsOnly_iff.mpr z)
      refine hk' fun q hq => ?_
      cases q with
      | k p => exact ⟨p, rfl⟩
      | s p =>
        exfalso
        obtain ⟨a, ha⟩ := mem_nkeys.mp hq
        have ha' := (hl _).mp ha
        obtain ⟨n1, n2⟩ := hs ns (List.mem_of_getElem? hi) p a ha'.1
        refine build_strange C hM (fun z => ?_) n1 n2 (hf _ ha'.1)
        obtain ⟨b, hb⟩ := mem_nkeys.mp z
        rcases List.mem_append.mp hb with hb | hb
        · exact ha'.2 (in_nkeys hb)
        · obtain ⟨r, hr, hz⟩ := h.src _ (in_nkeys hb)
          obtain ⟨p', e'⟩ := hK r hr _ hz
          cases e'
end ST
set_option Elab.async false
set_option linter.all false
set_option maxRecDepth 100000
set_option maxHeartbeats 4000000
namespace ST
variable [TN]
open PySem PySem.Spec PyProof.Rows L2
noncomputable def bitI (b : Bool) : Int := if b = true then 1 else 0
noncomputable def bit (b : Bool) : V := .int (bitI b)
theorem bitI_inj {a b : Bool} (h : bitI a = bitI b) : a = b := by cases a <;> cases b <;> first | rfl | exact absurd h (by decide)
theorem bits_inj : ∀ {a b : List Bool}, a.map bitI = b.map bitI → a = b
  | [], [], _ => rfl
  | [], _ :: _, h => by cases h
  | _ :: _, [], h => by cases h
  | x :: xs, y :: ys, h => by
    rw [List.map_cons, List.map_cons] at h
    injection h with h1 h2
    rw [bitI_inj h1, bits_inj h2]
theorem bits_map (p : List Bool) : p.map bit = (p.map bitI).map V.int := by rw [List.map_map]; rfl
noncomputable def Qn.word : Qn → Str
  | .k _ => "kind"
  | .s _ => "same"
noncomputable def Qn.key (q : Qn) : QK := (q.word, q.pl.map bitI)
theorem Qn.key_inj {a b : Qn} (h : a.key = b.key) : a = b := by
  have h1 : a.word = b.word := (Prod.mk.inj h).1
  have h2 : a.pl = b.pl := bits_inj (Prod.mk.inj h).2
  have no : ("kind" : Str) ≠ "same" := by decide +kernel
  cases a with
  | k p => cases b with
    | k p' => exact congrArg Qn.k h2
    | s p' => exact absurd h1 no
  | s p => cases b with
    | k p' => exact absurd h1.symm no
    | s p' => exact congrArg Qn.s h2
noncomputable def QIs (H : Hp) (v : V) (q : Qn) : Prop := ∃ a b, v = .ref a ∧ H a = some (.tup [.str q.word, .ref b]) ∧ H b = some (.tup (q.pl.map bit))
theorem QIs.tk {H H' : Hp} (g : ∀ b xs, H b = some (.tup xs) → H' b = some (.tup xs)) {v : V} {q : Qn} (h : QIs H v q) : QIs H' v q := by
  obtain ⟨a, b, e, h1, h2⟩ := h
  exact ⟨a, b, e, g _ _ h1, g _ _ h2⟩
theorem QIs.mono {H H' : Hp} (g : Same H H') {v : V} {q : Qn} (h : QIs H v q) : QIs H' v q := h.tk (tk_of g)
theorem vals_int {ns : List Int} {its : List Value} {P : Program} {w : World} (r : Vals (ns.map V.int) its) : ItemsAre (intKind P w) ns its := by
  induction ns generalizing its with
  | nil => rw [List.map_nil] at r; cases r; exact .nil
  | cons n t ih =>
    rw [List.map_cons] at r
    cases r with
    | cons h r =>
      obtain ⟨tk, rfl⟩ := h
      exact .cons (by simp [intKind, Value.isInt]) (ih r)
theorem pl_key {P : Program} {w : World} {H : Hp} {h : Heap} {b : Addr} {p : List Bool} (ok : HOk P w H h) (e : H b = some (.tup (p.map bit))) : IsTupleKey (intKind P w) h (p.map bitI) b := by
  obtain ⟨_, its, r, o, ho, hc, n, hd⟩ := ok b _ e
  rw [bits_map] at r
  exact ⟨o, its.toArray, n, ho, hc, hd, by simpa using vals_int r⟩
theorem q_key {P : Program} {w : World} {H : Hp} {h : Heap} {a : Addr} {q : Qn} (ok : HOk P w H h) (i : QIs H (.ref a) q) : (qKind P w).is h q.key a := by
  obtain ⟨a', b, e, h1, h2⟩ := i
  cases e
  obtain ⟨_, its, r, o, ho, hc, n, hd⟩ := ok _ _ h1
  obtain ⟨u, v, rfl, ru, rv⟩ := r.two
  obtain ⟨t, rfl⟩ := ru
  cases rv
  exact ⟨o, t, b, n, ho, hc, hd, pl_key ok h2⟩
theorem q_tup {P : Program} {w : World} {H : Hp} {h : Heap} {a : Addr} {q : Qn} (ok : HOk P w H h) (i : QIs H (.ref a) q) : ∃ its, h.IsTuple a its := by
  obtain ⟨a', b, e, h1, h2⟩ := i
  cases e
  obtain ⟨_, its, r, t⟩ := ok _ _ h1
  exact ⟨_, t⟩
noncomputable abbrev QP : List (Qn × Addr × V) → List (QK × Addr × Value) → Prop := Paired fun p q => p.1.key = q.1 ∧ p.2.1 = q.2.1 ∧ RelV p.2.2 q.2.2
noncomputable def dQ (P : Program) (w : World) (a : Addr) (ep : Nat) (xs : List (Qn × Addr × V)) : HO := .ext fun h => xs.length ≤ sizeLine ∧ (a == sysModules) = false ∧ (xs.map (·.1)).Nodup ∧
  ∃ vs, QP xs vs ∧ ∃ o es, h.get? a = some o ∧ o.ExactDict ∧ o.data = .dict es ep ∧ es.toList = vs.map (entryOfKey (qKind P w))
noncomputable instance {P : Program} {w : World} {a : Addr} {ep : Nat} {xs : List (Qn × Addr × V)} : NT (dQ P w a ep xs) := ⟨fun _ h => nomatch (show HO.ext _ = HO.tbl _ from h)⟩
noncomputable abbrev prj (xs : List (Qn × Addr × V)) : List (Qn × V) := xs.map fun x => (x.1, x.2.2)
noncomputable def QD (P : Program) (w : World) (H : Hp) (a : Addr) (kvs : List (Qn × V)) : Prop := ∃ ep xs, H a = some (dQ P w a ep xs) ∧ kvs = prj xs ∧ ∀ x ∈ xs, QIs H (.ref x.2.1) x.1
theorem QD.mono {P : Program} {w : World} {H H' : Hp} (g : Same H H') {a : Addr} {kvs : List (Qn × V)} (h : QD P w H a kvs) : QD P w H' a kvs := by
  obtain ⟨ep, xs, e, r, k⟩ := h
  exact ⟨ep, xs, g _ _ e, r, fun x hx => (k x hx).mono g⟩
theorem QP.keys {xs : List (Qn × Addr × V)} {vs : List (QK × Addr × Value)} (r : QP xs vs) : vs.map (·.1) = xs.map fun x => x.1.key := by
  induction r with
  | nil => rfl
  | cons h _ ih => rw [List.map_cons, List.map_cons, ih, h.1]
theorem nodup_key : ∀ {l : List Qn}, l.Nodup → (l.map Qn.key).Nodup
  | [], _ => List.nodup_nil
  | q :: t, h => by
    rw [List.map_cons, List.nodup_cons]
    refine ⟨fun m => ?_, nodup_key (List.nodup_cons.mp h).2⟩
    obtain ⟨q', hq, e⟩ := List.mem_map.mp m
    rw [Qn.key_inj e] at hq
    exact (List.nodup_cons.mp h).1 hq
theorem QP.val {xs : List (Qn × Addr × V)} {vs : List (QK × Addr × Value)} (r : QP xs vs) (q : Qn) : RelO (valV (prj xs) q) ((atKey vs q.key).map (·.2)) := by
  induction r with
  | nil => exact True.intro
  | @cons p e ps es h t ih =>
    obtain ⟨h1, _, h2⟩ := h
    by_cases c : p.1 = q
    · have c' : e.1 = q.key := by rw [← h1, c]
      have b : atKey (e :: es) q.key = some e.2 := by simp [atKey, List.find?_cons, c']
      rw [show prj (p :: ps) = (p.1, p.2.2) :: prj ps from rfl, valV_pos (p := (p.1, p.2.2)) c, b]
      exact h2
    · have c' : ¬ e.1 = q.key := fun z => c (Qn.key_inj (h1.trans z))
      have b : atKey (e :: es) q.key = atKey es q.key := by simp [atKey, List.find?_cons, c']
      rw [show prj (p :: ps) = (p.1, p.2.2) :: prj ps from rfl, valV_neg (p := (p.1, p.2.2)) c, b]
      exact ih
theorem QP.get {xs : List (Qn × Addr × V)} {vs : List (QK × Addr × Value)} (r : QP xs vs) : ∀ {i : Nat} {x : Qn × Addr × V}, xs[i]? = some x → ∃ v, vs[i]? = some v ∧ x.1.key = v.1 ∧ x.2.1 = v.2.1 ∧ RelV x.2.2 v.2.2 := by
  induction r with
  | nil => intro i x h; simp at h
  | @cons p e ps es h t ih =>
    intro i x hx
    cases i with
    | zero =>
      have z : p = x := by simpa using hx
      subst z
      exact ⟨e, rfl, h⟩
    | succ i => exact ih (i := i) (by simpa using hx)
theorem QD.at {P : Program} {w : World} {H : Hp} {h : Heap} (ok : HOk P w H h) {a : Addr} {ep : Nat} {xs : List (Qn × Addr × V)} (e : H a = some (dQ P w a ep xs)) (k : ∀ x ∈ xs, QIs H (.ref x.2.1) x.1) :
    xs.length ≤ sizeLine ∧ (a == sysModules) = false ∧ (xs.map (·.1)).Nodup ∧ ∃ vs, QP xs vs ∧ h.DictOfH (qKind P w) a vs := by
  obtain ⟨⟨h1, h2, h3, vs, r, o, es, e1, e2, e3, e4⟩, _⟩ := ok a _ e
  refine ⟨h1, h2, h3, vs, r, o, es, ep, e1, e2, e3, e4, fun v hv => ?_, ?_⟩
  · have key : ∀ {xs : List (Qn × Addr × V)} {vs : List (QK × Addr × Value)}, QP xs vs → (∀ x ∈ xs, QIs H (.ref x.2.1) x.1) → ∀ v ∈ vs, (qKind P w).is h v.1 v.2.1 := by
      intro xs vs r
      induction r with
      | nil => intro _ v hv; simp at hv
      | cons p t ih =>
        intro hx v hv
        rcases List.mem_cons.mp hv with z | z
        · subst z
          have := q_key ok (hx _ List.mem_cons_self)
          rw [p.1, p.2.1] at this
          exact this
        · exact ih (fun x hx' => hx x (List.mem_cons_of_mem _ hx')) v z
    exact key r k v hv
  · rw [r.keys]
    have z := nodup_key h3
    rw [List.map_map] at z
    exact z
theorem QD.raw {P : Program} {w : World} {H : Hp} {h : Heap} (ok : HOk P w H h) {a : Addr} {ep : Nat} {xs : List (Qn × Addr × V)} (e : H a = some (dQ P w a ep xs)) :
    xs.length ≤ sizeLine ∧ (a == sysModules) = false ∧ (xs.map (·.1)).Nodup ∧ ∃ vs, QP xs vs ∧ ∃ o es, h.get? a = some o ∧ o.ExactDict ∧ o.data = .dict es ep ∧ es.toList = vs.map (entryOfKey (qKind P w)) := (ok a _ e).1
noncomputable def putQ (xs : List (Qn × Addr × V)) (q : Qn) (b : Addr) (v : V) : List (Qn × Addr × V) :=
  if (valV (prj xs) q).isSome = true then xs.map (fun x => if x.1 = q then (x.1, x.2.1, v) else x) else xs ++ [(q, b, v)]
theorem prj_put (xs : List (Qn × Addr × V)) (q : Qn) (b : Addr) (v : V) : prj (putQ xs q b v) = putK (prj xs) q v := by
  unfold putQ putK
  rw [valV_any]
  split
  · unfold prj
    rw [List.map_map, List.map_map]
    refine List.map_congr_left fun x _ => ?_
    show ((if x.1 = q then (x.1, x.2.1, v) else x).1, (if x.1 = q then (x.1, x.2.1, v) else x).2.2) = if x.1 = q then (x.1, v) else (x.1, x.2.2)
    split <;> rfl
  · simp [prj]
theorem keys_put (xs : List (Qn × Addr × V)) (q : Qn) (b : Addr) (v : V) (hn : (xs.map (·.1)).Nodup) : ((putQ xs q b v).map (·.1)).Nodup := by
  unfold putQ
  split
  · rw [List.map_map]
    rw [show ((fun x : Qn × Addr × V => x.1) ∘ fun x => if x.1 = q then (x.1, x.2.1, v) else x) = fun x => x.1 from funext fun x => by show (if x.1 = q then (x.1, x.2.1, v) else x).1 = x.1; split <;> rfl]
    exact hn
  · rename_i h
    rw [List.map_append]
    refine nd_snoc hn fun m => h ?_
    obtain ⟨x, hx, e⟩ := List.mem_map.mp m
    cases z : valV (prj xs) q with
    | some _ => rfl
    | none =>
      refine absurd ?_ (valV_not z)
      exact List.mem_map.mpr ⟨(x.1, x.2.2), List.mem_map.mpr ⟨x, hx, rfl⟩, e⟩
theorem QP.put {xs : List (Qn × Addr × V)} {vs : List (QK × Addr × Value)} (r : QP xs vs) (q : Qn) (b : Addr) {v : V} {u : Value} (rv : RelV v u) : QP (putQ xs q b v) (storedH vs q.key b u) := by
  have e : (valV (prj xs) q).isSome = (atKey vs q.key).isSome := by rw [(r.val q).isSome_eq, Option.isSome_map]
  unfold putQ storedH
  rw [e]
  split
  · clear e
    rename_i h; clear h
    induction r with
    | nil => exact .nil
    | @cons p e ps es h t ih =>
      rw [List.map_cons, List.map_cons]
      refine .cons ?_ ih
      unfold putAt
      by_cases c : p.1 = q
      · rw [if_pos c, if_pos (by rw [← h.1, c])]
        exact ⟨h.1, h.2.1, rv⟩
      · rw [if_neg c, if_neg (fun z => c (Qn.key_inj (h.1.trans z)))]
        exact h
  · exact Paired.snoc r ⟨rfl, rfl, rv⟩
theorem putQ_len (xs : List (Qn × Addr × V)) (q : Qn) (b : Addr) (v : V) : (putQ xs q b v).length ≤ xs.length + 1 := by
  unfold putQ
  split
  · rw [List.length_map]; omega
  · simp
theorem putQ_mem {xs : List (Qn × Addr × V)} {q : Qn} {b : Addr} {v : V} {x : Qn × Addr × V} (h : x ∈ putQ xs q b v) : (∃ y ∈ xs, x.1 = y.1 ∧ x.2.1 = y.2.1) ∨ x = (q, b, v) := by
  unfold putQ at h
  split at h
  · obtain ⟨y, hy, rfl⟩ := List.mem_map.mp h
    refine .inl ⟨y, hy, ?_⟩
    split <;> exact ⟨rfl, rfl⟩
  · rcases List.mem_append.mp h with h | h
    · exact .inl ⟨x, h, rfl, rfl⟩
    · exact .inr (List.mem_singleton.mp h)
theorem dQ_ok {P : Program} {w : World} {H : Hp} {h : Heap} {a : Addr} {xs : List (Qn × Addr × V)} {vs : List (QK × Addr × Value)} (h1 : xs.length ≤ sizeLine) (h2 : (a == sysModules) = false) (h3 : (xs.map (·.1)).Nodup) (r : QP xs vs)
    {o : Obj} {es : Array DictEntry} {ep : Nat} (e1 : h.get? a = some o) (e2 : o.ExactDict) (e3 : o.data = .dict es ep) (e4 : es.toList = vs.map (entryOfKey (qKind P w))) : ObjOk P w H h a (dQ P w a ep xs) :=
  ⟨⟨h1, h2, h3, vs, r, o, es, e1, e2, e3, e4⟩, ⟨o, e1⟩, fun _ _ ⟨k1, k2, k3, vs', r', o', es', q1, q2⟩ st => ⟨k1, k2, k3, vs', r', o', es', st _ q1, q2⟩⟩
theorem tk_dQ {P : Program} {w : World} {H : Hp} {a : Addr} {ep : Nat} {xs : List (Qn × Addr × V)} (h : H a = some (dQ P w a ep xs)) (o : HO) : ∀ b zs, H b = some (.tup zs) → upd H a o b = some (.tup zs) := fun b zs e => by
  rw [upd_ne (fun z => by rw [z, h] at e; exact nomatch (show some (HO.ext _) = some (HO.tup zs) from e))]; exact e
section
variable {X : Cx} {pins : List (Addr × Obj)} {σ : L2.St} {H : Hp} {s : Shared} {a : Addr} {kvs : List (Qn × V)} {A : Around} {E : Value → Shared → Prop}
theorem mut_dQ {P : Program} {w : World} {ep : Nat} {xs : List (Qn × Addr × V)} (h : H a = some (dQ P w a ep xs)) : Mut (H a) := by rw [h]; exact True.intro
theorem q_room (hu : A.units + 2 < cLine) : (qKind X.prog X.w).room A.in1 := by show A.units + 1 + 1 < cLine; omega
theorem q_setItem {b : Addr} {q : Qn} {v : V} {u : Value} {ep : Nat} {xs : List (Qn × Addr × V)} {Q : Unit → Shared → Prop} (hu : A.units + 2 < cLine) (I : Inv X pins σ H s) (e : H a = some (dQ X.prog X.w a ep xs)) (k : ∀ x ∈ xs, QIs H (.ref x.2.1) x.1) (kb : QIs H (.ref b) q) (hl : xs.length < sizeLine)
    (rv : RelV v u) (h : ∀ ep' s', Inv X pins σ (upd H a (dQ X.prog X.w a ep' (putQ xs q b v))) s' → Q () s') : wpAny (model X.prog X.w) A (setItem (.ref a) (.ref b) u) Q E s := by
  obtain ⟨h1, h2, h3, vs, r, dd⟩ := QD.at I.hok e k
  have hlen : vs.length = xs.length := (Paired.length r).symm
  refine wpAny_setItem_heap (knd := qKind X.prog X.w) (q_room hu) (q_key I.hok kb) dd (fun h' dd' sb => ?_) (by omega)
  obtain ⟨o, es, ep', e1, e2, e3, e4, _⟩ := dd'
  refine h ep' _ (I.write (x := a) (e := a) (t' := s.toks + (qKind X.prog X.w).draws q.key) (mut_dQ e) (.inl rfl) (fun c ob hc z => (sb.2 c hc).trans z) ⟨o, e1⟩ ?_)
  exact dQ_ok (by have := putQ_len xs q b v; omega) h2 (keys_put xs q b v h3) (r.put q b rv) e1 e2 e3 e4
theorem q_getItem {b : Addr} {q : Qn} {v : V} {Q : Value → Shared → Prop} (hu : A.units + 2 < cLine) (I : Inv X pins σ H s) (d : QD X.prog X.w H a kvs) (kb : QIs H (.ref b) q) (hv : valV kvs q = some v) (h : ∀ u s', Inv X pins σ H s' → RelV v u → Q u s') :
    wpAny (model X.prog X.w) A (getItem (.ref a) (.ref b)) Q E s := by
  obtain ⟨ep, xs, e, rfl, k⟩ := d
  obtain ⟨h1, h2, h3, vs, r, dd⟩ := QD.at I.hok e k
  have z := r.val q
  rw [hv] at z
  cases z2 : atKey vs q.key with
  | none => rw [z2] at z; exact (show False from z).elim
  | some p =>
    rw [z2] at z
    exact wpAny_getItem_heap (knd := qKind X.prog X.w) (q_room hu) (q_key I.hok kb) dd z2 (h _ _ (I.tok _) z)
theorem q_in {b : Addr} {q : Qn} {Q : Value → Shared → Prop} (hu : A.units + 2 < cLine) (I : Inv X pins σ H s) (d : QD X.prog X.w H a kvs) (kb : QIs H (.ref b) q) (h : ∀ s', Inv X pins σ H s' → Q (.bool (valV kvs q).isSome) s') :
    wpAny (model X.prog X.w) A (compareOp .In (.ref b) (.ref a)) Q E s := by
  obtain ⟨ep, xs, e, rfl, k⟩ := d
  obtain ⟨h1, h2, h3, vs, r, dd⟩ := QD.at I.hok e k
  refine wpAny_in_heap (knd := qKind X.prog X.w) (q_room hu) (q_key I.hok kb) h2 dd ?_
  have z := (r.val q).isSome_eq
  rw [Option.isSome_map] at z
  rw [← z]
  exact h _ (I.tok _)
theorem q_notIn {b : Addr} {q : Qn} {Q : Value → Shared → Prop} (hu : A.units + 2 < cLine) (I : Inv X pins σ H s) (d : QD X.prog X.w H a kvs) (kb : QIs H (.ref b) q) (h : ∀ s', Inv X pins σ H s' → Q (.bool (!(valV kvs q).isSome)) s') :
    wpAny (model X.prog X.w) A (compareOp .NotIn (.ref b) (.ref a)) Q E s := by
  obtain ⟨ep, xs, e, rfl, k⟩ := d
  obtain ⟨h1, h2, h3, vs, r, dd⟩ := QD.at I.hok e k
  refine wpAny_notIn_heap (knd := qKind X.prog X.w) (q_room hu) (q_key I.hok kb) h2 dd ?_
  have z := (r.val q).isSome_eq
  rw [Option.isSome_map] at z
  rw [← z]
  exact h _ (I.tok _)
end
end ST
set_option Elab.async false
set_option linter.all false
set_option maxRecDepth 100000
set_option maxHeartbeats 4000000
namespace ST
variable [TN]
open PySem PySem.Spec PyProof.Rows L2
section
variable {prog : Program} {w : World} {A : Around} {E : Value → Shared → Prop} {s : Shared} {d : Addr} {o : Obj} {es : Array DictEntry} {ep : Nat}
theorem len_body {Q : Value → Shared → Prop} (hs : (d == sysModules) = false) (ho : s.heap.get? d = some o) (hx : o.ExactDict) (hd : o.data = .dict es ep) (hz : es.size ≤ sizeLine)
    (h : Q (.int es.size (s.toks + 1)) { s with toks := s.toks + 1 + 1 }) : wpAny (model prog w) A (Builtin.«len» ⟨[.ref d], []⟩) (fun fin s' => ∃ r, fin = .done (.ret r) ∧ Q r s') E s := by
  have hT : s.TypeIs (.ref d) "dict" := ⟨o, ho, hx.1⟩
  have hl : es.size < 2 ^ 63 := Nat.lt_of_le_of_lt hz (by decide +kernel)
  unfold Builtin.«len»
  refine wpAny_bind (m := oneArg "len" _) (wpAny_pure ?_)
  refine wpAny_bind (m := callSpecial? (.ref d) (Str.ofString "__len__")) (wpAny_callSpecial?_slot (name := Str.ofString "__len__") hT F.slot_dict_len (wpAny_call_entry F.slot_dict_len hT F.entry_dict_len ?_ (F.args_dict_len_1 _)))
  show wpAny _ _ (dictSize d >>= _) _ _ s
  unfold dictSize
  refine wpAny_bind (wpAny_bind (wpAny_dictEntries ho hd (wpAny_pure ?_)))
  show wpAny _ _ (Builtin.Dict.pendingCount d >>= _) _ _ s
  refine wpAny_bind (wpAny_pendingCount_other hs (wpAny_ret_mkInt ?_))
  rw [Nat.add_zero]
  refine wpAny_bind (wpAny_holding (wpAny_pure (wpAny_bind (wpAny_letGo ?_))))
  show wpAny _ _ (if ((es.size : Nat) : Int) < 0 then _ else _) _ _ _
  rw [if_neg (by omega)]
  show wpAny _ _ (if ((es.size : Nat) : Int) ≥ 2 ^ 63 then _ else _) _ _ _
  rw [if_neg (by omega)]
  exact wpAny_bind (wpAny_mkInt (wpAny_pure ⟨_, rfl, h⟩))
theorem len_raw {Q : Value → Shared → Prop} (hs : (d == sysModules) = false) (ho : s.heap.get? d = some o) (hx : o.ExactDict) (hd : o.data = .dict es ep) (hz : es.size ≤ sizeLine)
    (h : Q (.int es.size (s.toks + 1)) { s with toks := s.toks + 1 + 1 }) : wpAny (model prog w) A (call (.builtin "len") [.ref d]) Q E s :=
  Calls.call_function_entry kind_len plain_len entry_len (args_len1 _) (len_body hs ho hx hd hz h)
theorem truth_raw {Q : Bool → Shared → Prop} (hs : (d == sysModules) = false) (ho : s.heap.get? d = some o) (hx : o.ExactDict) (hd : o.data = .dict es ep) (hz : es.size ≤ sizeLine)
    (h : Q (!es.isEmpty) { s with toks := s.toks + 1 + 1 }) : wpAny (model prog w) A (truthy (.ref d)) Q E s := by
  have hT : s.TypeIs (.ref d) "dict" := ⟨o, ho, hx.1⟩
  have hne : ((es.size : Int) != 0) = !es.isEmpty := by
    rw [show es.isEmpty = decide (es.size = 0) from rfl]
    by_cases e : es.size = 0
    · rw [e]; rfl
    · rw [decide_eq_false e, Bool.not_false, bne_iff_ne]
      omega
  have key : wpAny (model prog w) A (runValue (.builtin "len" ⟨[.ref d], []⟩)) (fun r s' => r = .int es.size (s.toks + 1) ∧ Q (!es.isEmpty) s') E s := by
    refine wpAny_runValue (codeAny_builtin entry_len ?_)
    rw [Around.under_plainId plain_len _]
    exact wpAny_mono (len_body (Q := fun r s' => r = .int es.size (s.toks + 1) ∧ Q (!es.isEmpty) s') hs ho hx hd hz ⟨rfl, h⟩) (fun fin s' h' => by obtain ⟨r, rfl, hq⟩ := h'; exact hq) fun _ _ e => e
  unfold truthy
  first
    | refine wpAny_bind (wpAny_callSpecial?_none (name := Str.ofString "__bool__") hT noBool_dict ?_)
    | refine wpAny_bind (wpAny_pure (wpAny_bind (wpAny_callSpecial?_none (name := Str.ofString "__bool__") hT noBool_dict ?_)))
  first
    | refine wpAny_bind (wpAny_specialOf (name := Str.ofString "__len__") hT F.slot_dict_len.lookup ?_)
    | refine wpAny_bind (wpAny_pure (wpAny_bind (wpAny_specialOf (name := Str.ofString "__len__") hT F.slot_dict_len.lookup ?_)))
  first
    | exact wpAny_bind (wpAny_mono key (fun r s' ⟨e1, hq⟩ => by subst e1; exact wpAny_pure (hne ▸ hq)) fun _ _ e => e)
    | exact wpAny_bind (wpAny_pure (wpAny_bind (wpAny_mono key (fun r s' ⟨e1, hq⟩ => by subst e1; exact wpAny_pure (hne ▸ hq)) fun _ _ e => e)))
theorem empties_raw {nm : String} {Q : Array DictEntry → Shared → Prop} (ho : s.heap.get? d = some o) (hd : o.data = .dict es ep) (hk : ∀ e ∈ es, ∃ b its, e.key = .ref b ∧ s.heap.IsTuple b its) (hh : ∀ e ∈ es, ¬ (es.filter (·.hash == e.hash)).size > 1)
    (h : Q es s) : wpAny (model prog w) A (Builtin.Dict.entriesForEmpty nm d) Q E s := by
  unfold Builtin.Dict.entriesForEmpty
  refine wpAny_bind (wpAny_dictEntries ho hd (wpAny_bind ?_))
  rw [← Array.forIn_toList]
  refine wpAny_forIn_list _ (fun rest r s' => s' = s ∧ ∀ e ∈ rest, e ∈ es) _ ?_ ?_ _ _ ⟨rfl, fun e he => Array.mem_toList_iff.mp he⟩
  · rintro e rest r s' ⟨rfl, all⟩
    obtain ⟨b, its, ek, ht⟩ := hk e (all e List.mem_cons_self)
    unfold Builtin.Dict.quietEq
    rw [ek]
    refine wpAny_bind (wpAny_bind (wpAny_specialOf ht.typeIs F.slot_tuple_eq.lookup (wpAny_pure ?_)))
    rw [show (some (Value.builtin "tuple.__eq__") == some (Value.builtin "object.__eq__")) = false from rfl]
    simp only [Bool.not_false, if_true]
    rw [if_neg (hh e (all e List.mem_cons_self))]
    exact wpAny_pure ⟨rfl, fun x hx => all x (List.mem_cons_of_mem _ hx)⟩
  · rintro r s' ⟨rfl, _⟩
    exact wpAny_pure h
theorem merge_raw {nm : String} {c : Addr} {oc : Obj} {epc : Nat} {Q : Unit → Shared → Prop} (hne : c ≠ d) (hs : (d == sysModules) = false) (hc : s.heap.get? c = some oc) (hcx : oc.ExactDict) (hcd : oc.data = .dict #[] epc)
    (ho : s.heap.get? d = some o) (hd : o.data = .dict es ep) (hz : es.size ≤ sizeLine) (hk : ∀ e ∈ es, ∃ b its, e.key = .ref b ∧ s.heap.IsTuple b its) (hh : ∀ e ∈ es, ¬ (es.filter (·.hash == e.hash)).size > 1)
    (h : ∀ h' o2 ep2, h'.get? c = some o2 → o2.ExactDict → o2.data = .dict es ep2 → Heap.SameBut c s.heap h' → Q () { s with heap := h' }) : wpAny (model prog w) A (Builtin.Dict.mergeDict nm c d) Q E s := by
  unfold Builtin.Dict.mergeDict
  rw [if_neg (by simpa using hne)]
  unfold Builtin.Dict.showsAll
  rw [hs]
  refine wpAny_bind (wpAny_pure (wpAny_bind (wpAny_dictEntries ho hd ?_)))
  dsimp only
  by_cases hemp : es = #[]
  · subst hemp
    rw [if_neg (by simp)]
    refine wpAny_bind (wpAny_dictEpoch ho hd (wpAny_bind (wpAny_dictEntries ho hd (wpAny_bind ?_))))
    rw [Std.Legacy.Range.forIn_eq_forIn_range']
    simp only [Std.Legacy.Range.size, Array.size_empty, Nat.sub_zero, Nat.zero_add, Nat.sub_self, Nat.zero_div, List.range'_zero, List.forIn_nil]
    first
      | exact wpAny_pure (wpAny_pure (h s.heap oc epc hc hcx hcd (Heap.SameBut.refl _ _)))
      | exact wpAny_pure (h s.heap oc epc hc hcx hcd (Heap.SameBut.refl _ _))
  · have hpos : 0 < es.size := Nat.pos_of_ne_zero fun z => hemp (Array.size_eq_zero_iff.mp z)
    have hfew : ¬ (es.all fun e => (keyPart e.key).isSome) = true := by
      rw [Array.all_eq_true]
      intro all
      obtain ⟨b, its, ek, _⟩ := hk es[0] (Array.getElem_mem hpos)
      have := all 0 hpos
      rw [ek] at this
      cases this
    rw [if_pos (by simp only [Bool.not_eq_true] at hfew; rw [hfew, Bool.and_false]; rfl)]
    refine wpAny_bind (wpAny_dictEntries hc hcd ?_)
    rw [if_pos (by rfl)]
    refine wpAny_bind (empties_raw ho hd hk hh ?_)
    have hne2 : (!es.isEmpty) = true := by
      rw [show es.isEmpty = decide (es.size = 0) from rfl, decide_eq_false (Nat.ne_of_gt hpos)]; rfl
    rw [if_pos hne2]
    refine wpAny_bind (wpAny_updateDictKeysTo hc hcd (wpAny_pure (h _ _ (epc + 1) (Heap.get?_update_self _ hc (Obj.isFreed_of_dict (Obj.data_mapDictKeys hcd _))) (hcx.mapDictKeys _) (Obj.data_mapDictKeys hcd _) (Heap.SameBut.update ..))) (by omega))
end
end ST
set_option Elab.async false
set_option linter.all false
set_option maxRecDepth 100000
set_option maxHeartbeats 4000000
namespace ST
variable [TN]
open PySem PySem.Spec PyProof.Rows L2
theorem filter_one {α β : Type} [BEq β] [LawfulBEq β] (f : α → β) : ∀ {l : List α}, (l.map f).Nodup → ∀ e, (l.filter fun x => f x == e).length ≤ 1
  | [], _, e => Nat.zero_le _
  | x :: t, h, e => by
    rw [List.map_cons, List.nodup_cons] at h
    have ih := filter_one f h.2 e
    rw [List.filter_cons]
    split
    · rename_i c
      have c' : f x = e := by simpa using c
      have no : t.filter (fun y => f y == e) = [] := by
        rw [List.filter_eq_nil_iff]
        intro y hy z
        have z' : f y = e := by simpa using z
        exact h.1 (List.mem_map.mpr ⟨y, hy, z'.trans c'.symm⟩)
      rw [no]
      exact Nat.le_refl _
    · exact ih
noncomputable def Apart (P : Program) (w : World) (xs : List (Qn × Addr × V)) : Prop := (xs.map fun x => qHash P w x.1.key).Nodup
theorem QP.hashes {P : Program} {w : World} {xs : List (Qn × Addr × V)} {vs : List (QK × Addr × Value)} (r : QP xs vs) : (vs.map (entryOfKey (qKind P w))).map (·.hash) = xs.map fun x => qHash P w x.1.key := by
  induction r with
  | nil => rfl
  | cons h _ ih =>
    rw [List.map_cons, List.map_cons, List.map_cons, ih, h.1]
    rfl
theorem apart_es {P : Program} {w : World} {xs : List (Qn × Addr × V)} {vs : List (QK × Addr × Value)} {es : Array DictEntry} (r : QP xs vs) (e4 : es.toList = vs.map (entryOfKey (qKind P w))) (h : Apart P w xs) : ∀ e ∈ es, ¬ (es.filter (·.hash == e.hash)).size > 1 := fun e _ => by
  unfold Apart at h
  rw [← r.hashes (P := P) (w := w), ← e4] at h
  have z := filter_one (fun e : DictEntry => e.hash) h e.hash
  rw [← Array.length_toList, Array.toList_filter]
  omega
theorem keys_es {P : Program} {w : World} {H : Hp} {h : Heap} (ok : HOk P w H h) {xs : List (Qn × Addr × V)} {vs : List (QK × Addr × Value)} {es : Array DictEntry} (r : QP xs vs) (k : ∀ x ∈ xs, QIs H (.ref x.2.1) x.1) (e4 : es.toList = vs.map (entryOfKey (qKind P w))) :
    ∀ e ∈ es, ∃ (q : QK) (b : Addr) (its : Array Value), e.key = .ref b ∧ (qKind P w).is h q b ∧ h.IsTuple b its := fun e he => by
  have he' : e ∈ vs.map (entryOfKey (qKind P w)) := by rw [← e4]; exact Array.mem_toList_iff.mpr he
  obtain ⟨v, hv, rfl⟩ := List.mem_map.mp he'
  have key : ∀ {xs : List (Qn × Addr × V)} {vs : List (QK × Addr × Value)}, QP xs vs → (∀ x ∈ xs, QIs H (.ref x.2.1) x.1) → ∀ v ∈ vs, ∃ q : Qn, QIs H (.ref v.2.1) q := by
    intro xs vs r
    induction r with
    | nil => intro _ v hv; simp at hv
    | cons p t ih =>
      intro hx v hv
      rcases List.mem_cons.mp hv with z | z
      · subst z
        have := hx _ List.mem_cons_self
        rw [p.2.1] at this
        exact ⟨_, this⟩
      · exact ih (fun x hx' => hx x (List.mem_cons_of_mem _ hx')) v z
  obtain ⟨q, hq⟩ := key r k v hv
  obtain ⟨its, ht⟩ := q_tup ok hq
  exact ⟨q.key, v.2.1, its, rfl, q_key ok hq, ht⟩
section
variable {X : Cx}
noncomputable def tQNew (P : Program) (w : World) : TE := fun _ H Q => ∀ p ep, H p = none → Q (.ref p) (upd H p (dQ P w p ep []))
theorem pe_qnew {pos : Pos} : PE X (.Dict [] [] pos) (tQNew X.prog X.w) := by
  intro pins s σ H Q I h
  refine thn (pe_dnewK (X := X) (pos := pos) pins s σ H (fun v H' => ∃ p, v = .ref p ∧ H p = none ∧ H' = upd H p (.dK [])) I fun p hp => ⟨p, rfl, hp, rfl⟩) fun u s1 z => ?_
  obtain ⟨v, H', I1, r1, p, rfl, hp, rfl⟩ := z
  cases r1
  have hb : ∀ b o, b ≠ p → upd H p (.dK []) b = some o → H b = some o := fun b o hb e => by rw [upd_ne hb] at e; exact e
  obtain ⟨_, hs, vs, kv, dd⟩ := dk_of I1.hok (show upd H p (.dK []) p = some (.dK []) from upd_same)
  cases kv
  obtain ⟨o, es, ep, e1, e2, e3, _, hp2, _⟩ := dd
  have he : es = #[] := by
    have := hp2.length
    exact Array.size_eq_zero_iff.mp (by rw [← Array.length_toList]; simpa using this)
  subst he
  have up2 : upd (upd H p (.dK [])) p (dQ X.prog X.w p ep []) = upd H p (dQ X.prog X.w p ep []) := by
    funext b
    by_cases hb : b = p
    · subst hb; rw [upd_same, upd_same]
    · rw [upd_ne hb, upd_ne hb, upd_ne hb]
  have I2 : Inv X pins σ (upd H p (dQ X.prog X.w p ep [])) s1 := by
    rw [← up2]
    exact I1.write (x := p) (e := p) (h' := s1.heap) (t' := s1.toks) (by rw [upd_same]; exact True.intro) (.inl rfl) (fun _ _ _ z => z) ⟨o, e1⟩ (dQ_ok (xs := []) (vs := []) (Nat.zero_le _) hs List.nodup_nil .nil e1 e2 e3 rfl)
  exact ⟨.ref p, _, I2, rfl, h p ep hp⟩
noncomputable def tQGet (P : Program) (w : World) (td ty : TE) : TE := fun σ H Q => td σ H fun x H1 => ty σ H1 fun y H2 => ∃ a kvs q v, x = .ref a ∧ QD P w H2 a kvs ∧ QIs H2 y q ∧ valV kvs q = some v ∧ Q v H2
theorem qd_ty {pins : List (Addr × Obj)} {σ : L2.St} {H : Hp} {s : Shared} {a : Addr} {kvs : List (Qn × V)} (I : Inv X pins σ H s) (d : QD X.prog X.w H a kvs) : s.TypeIs (.ref a) "dict" ∧ (∀ b, Value.ref a = .ref b → ∃ ob, s.heap.get? b = some ob ∧ ob.dict = none) := by
  obtain ⟨ep0, xs, e, rfl, k⟩ := d
  obtain ⟨h1, h2, h3, vs, r, o, es, ep, e1, e2, _⟩ := QD.at I.hok e k
  exact ⟨⟨o, e1, e2.1⟩, fun b q => by cases q; exact ⟨o, e1, e2.2.1⟩⟩
theorem qis_ref {H : Hp} {y : V} {q : Qn} (h : QIs H y q) : ∃ b, y = .ref b := by obtain ⟨a, b, e, _⟩ := h; exact ⟨a, e⟩
theorem pe_qget {o i : Expr} {pos : Pos} {td ty : TE} (hu : X.A.units + 2 < cLine) (ho : PE X o td) (hi : PE X i ty) (hs : NoSl i) : PE X (.Subscript o i pos) (tQGet X.prog X.w td ty) := by
  intro pins s σ H Q I h
  refine subD_of PySem.F.slot_dict_getitem.lookup hs (thn (ho pins s σ H _ I h) fun u s1 ⟨x, H1, I1, rx, q1⟩ => thn (hi pins s1 σ H1 _ I1 q1) fun iv s2 ⟨y, H2, I2, ry, a, kvs, q, v, ex, d, kq, hv, q2⟩ => ?_)
  subst ex
  cases rx
  obtain ⟨b, rfl⟩ := qis_ref kq
  cases ry
  exact ⟨(qd_ty I2 d).1, q_getItem hu I2 d kq hv fun w' s3 I3 rw' => ⟨v, H2, I3, rw', q2⟩⟩
noncomputable def rInQ (P : Program) (w : World) (neg : Bool) : R2 := fun x y H Q => ∃ a kvs q, y = .ref a ∧ QD P w H a kvs ∧ QIs H x q ∧ Q (.bl (xor neg (valV kvs q).isSome)) H
theorem op_qin (hu : X.A.units + 2 < cLine) : OpR X (compareOp .In) (rInQ X.prog X.w false) := by
  intro pins s σ H x y v u Q I rx ry h
  obtain ⟨a, kvs, q, rfl, d, kq, z⟩ := h
  cases ry
  obtain ⟨b, rfl⟩ := qis_ref kq
  cases rx
  exact q_in hu I d kq fun s' I' => ⟨.bl _, H, I', rfl, by simpa using z⟩
theorem op_qnotin (hu : X.A.units + 2 < cLine) : OpR X (compareOp .NotIn) (rInQ X.prog X.w true) := by
  intro pins s σ H x y v u Q I rx ry h
  obtain ⟨a, kvs, q, rfl, d, kq, z⟩ := h
  cases ry
  obtain ⟨b, rfl⟩ := qis_ref kq
  cases rx
  exact q_notIn hu I d kq fun s' I' => ⟨.bl _, H, I', rfl, by simpa using z⟩
noncomputable def rNoneQ (P : Program) (w : World) : R2 := fun x y H Q => ∃ a kvs, y = .ref a ∧ QD P w H a kvs ∧ x = .non ∧ Q (.bl true) H
theorem op_qnone (hu : X.A.units + 2 < cLine) : OpR X (compareOp .NotIn) (rNoneQ X.prog X.w) := by
  intro pins s σ H x y v u Q I rx ry h
  obtain ⟨a, kvs, rfl, ⟨ep0, xs, e, rfl, k⟩, rfl, z⟩ := h
  cases ry
  cases (show v = Value.none from rx)
  obtain ⟨h1, h2, h3, vs, r, o, es, ep, e1, e2, e3, e4, _⟩ := QD.at I.hok e k
  exact notIn_none (knd := qKind X.prog X.w) (by omega) h2 e1 e2 e3 (keys_es I.hok r k e4) ⟨.bl true, H, I.tok _, rfl, z⟩
theorem op_qnotin2 (hu : X.A.units + 2 < cLine) : OpR X (compareOp .NotIn) (fun x y H Q => rInQ X.prog X.w true x y H Q ∨ rNoneQ X.prog X.w x y H Q) := by
  intro pins s σ H x y v u Q I rx ry h
  rcases h with h | h
  · exact op_qnotin hu pins s σ H x y v u Q I rx ry h
  · exact op_qnone hu pins s σ H x y v u Q I rx ry h
noncomputable def rSetQ (P : Program) (w : World) : V → V → V → Hp → (Hp → Prop) → Prop := fun o i v H Q => ∃ a b ep xs q, o = .ref a ∧ i = .ref b ∧ H a = some (dQ P w a ep xs) ∧ (∀ x ∈ xs, QIs H (.ref x.2.1) x.1) ∧ QIs H (.ref b) q ∧ xs.length < sizeLine ∧ ∀ ep', Q (upd H a (dQ P w a ep' (putQ xs q b v)))
theorem set_q (hu : X.A.units + 2 < cLine) : PSet X (rSetQ X.prog X.w) := by
  intro pins s σ H o i v ov iv u Q I ro ri rv h
  obtain ⟨a, b, ep, xs, q, rfl, rfl, e, k, kb, hl, z⟩ := h
  cases ro
  cases ri
  exact q_setItem hu I e k kb hl rv fun ep' s' I' => ⟨_, I', z ep'⟩
theorem call_lenQ : CallR X (.builtin "len") (fun xs H Q => ∃ a kvs, xs = [.ref a] ∧ QD X.prog X.w H a kvs ∧ Q (.int kvs.length) H) := by
  intro pins s σ H xs us Q I r h
  obtain ⟨a, kvs, rfl, ⟨ep0, ys, e, rfl, k⟩, z⟩ := h
  obtain ⟨u, rfl, ru⟩ := vals1 r
  cases ru
  obtain ⟨h1, h2, h3, vs, r, o, es, ep, e1, e2, e3, e4, _⟩ := QD.at I.hok e k
  have hl : es.size = (prj ys).length := by rw [size_of_entries e4, List.length_map]; exact (Paired.length r).symm
  refine len_raw h2 e1 e2 e3 (by rw [hl, List.length_map]; exact h1) ?_
  rw [hl]
  exact ⟨.int _, H, I.tok _, ⟨_, rfl⟩, z⟩
theorem pt_truthQ {a : Expr} {ta : TE} (ha : PE X a ta) (he : ∀ whole, isTrue a X.env whole = (do let v ← whole; standAt a.pos; holding [v] (truthy v))) : PT X a (fun σ H Q => ta σ H fun x H' => ∃ d kvs, x = .ref d ∧ QD X.prog X.w H' d kvs ∧ Q (!kvs.isEmpty) H') := by
  intro pins s σ H Q I h
  refine isTrue_plain (thn (ha pins s σ H _ I h) fun v s1 ⟨x, H1, I1, r1, q1⟩ => ?_) (he _)
  obtain ⟨d, kvs, rfl, ⟨ep0, ys, e, rfl, k⟩, z⟩ := q1
  cases r1
  obtain ⟨h1, h2, h3, vs, r, o, es, ep, e1, e2, e3, e4, _⟩ := QD.at I1.hok e k
  have hl : es.size = (prj ys).length := by rw [size_of_entries e4, List.length_map]; exact (Paired.length r).symm
  refine truth_raw h2 e1 e2 e3 (by rw [hl, List.length_map]; exact h1) ⟨H1, I1.tok _, ?_⟩
  have hb : es.isEmpty = (prj ys).isEmpty := by
    rw [show es.isEmpty = decide (es.size = 0) from rfl, hl]
    cases prj ys <;> rfl
  rw [hb]
  exact z
end
end ST
set_option Elab.async false
set_option linter.all false
set_option maxRecDepth 100000
set_option maxHeartbeats 4000000
namespace ST
variable [TN]
open PySem PySem.Spec PyProof.Rows L2
noncomputable def Itq (P : Program) (w : World) (a : Addr) (ep : Nat) (xs : List (Qn × Addr × V)) : It :=
  ⟨fun i H => H a = some (dQ P w a ep xs) ∧ i < xs.length, fun i H x H' => H' = H ∧ ∃ e, xs[i]? = some e ∧ x = .ref e.2.1, fun i H => H a = some (dQ P w a ep xs) ∧ xs.length ≤ i⟩
theorem es_at {P : Program} {w : World} {xs : List (Qn × Addr × V)} {vs : List (QK × Addr × Value)} {es : Array DictEntry} (r : QP xs vs) (e4 : es.toList = vs.map (entryOfKey (qKind P w))) {i : Nat} {x : Qn × Addr × V} (hx : xs[i]? = some x) :
    ∃ e, es[i]? = some e ∧ e.key = .ref x.2.1 := by
  obtain ⟨v, hv, _, h2, _⟩ := r.get hx
  refine ⟨entryOfKey (qKind P w) v, ?_, by rw [h2]; rfl⟩
  rw [← Array.getElem?_toList, e4, List.getElem?_map, hv]
  rfl
theorem turn_q {P : Program} {w : World} {K : PySem.W.Frag} {tg : Expr} (a it : Addr) (ep : Nat) (xs : List (Qn × Addr × V)) : Turn P w K tg (Itq P w a ep xs) [it] it (fun i h => h.IsKeyIter it a i xs.length ep) where
  mem := by simp
  obj := fun i h st b hb => by
    have e : b = it := by simpa using hb
    subst e
    obtain ⟨o, e, c, d⟩ := st
    exact ⟨o, e, fun v z => by rw [d] at z; cases z⟩
  keep := fun i h h' st k => st.at fun o e => k it (by simp) o e
  item := by
    intro X hP hw hK hc i pins s σ H E I hf st hg
    subst hP hw hK
    obtain ⟨hd, hi⟩ := hg
    obtain ⟨h1, h2, h3, vs, r, o, es, e1, e2, e3, e4⟩ := QD.raw I.hok hd
    have hl : es.size = xs.length := by rw [size_of_entries e4]; exact (Paired.length r).symm
    obtain ⟨x, hx⟩ : ∃ x, xs[i]? = some x := ⟨_, List.getElem?_eq_getElem hi⟩
    obtain ⟨e, he, hk⟩ := es_at r e4 hx
    obtain ⟨f0, f1, f2, f3, f4, f5⟩ := hf it (by simp)
    have st' : s.heap.IsKeyIter it a i es.size ep := by rw [hl]; exact st
    refine next_item st' e1 e3 he fun h' st2 sb => ?_
    rw [hl] at st2
    have I1 : Inv X pins σ H { s with heap := h' } := I.turned (t' := s.toks) (fun b o hb e => (sb.2 b hb).trans e) f0 f1 f3 f4 f5
    obtain ⟨oi, q1, q2, q3⟩ := id st2
    rw [hk]
    exact ⟨_, rfl, go_of (s := { s with heap := h' }) q1 q2 q3 (by decide) ⟨.ref x.2.1, H, I1, rfl, ⟨rfl, x, hx, rfl⟩, st2, fun b hb => (hf b hb).1⟩⟩
  done := by
    intro X hP hw hK hc i pins s σ H E I hf st hg
    subst hP hw hK
    obtain ⟨hd, hi⟩ := hg
    obtain ⟨h1, h2, h3, vs, r, o, es, e1, e2, e3, e4⟩ := QD.raw I.hok hd
    have hl : es.size = xs.length := by rw [size_of_entries e4]; exact (Paired.length r).symm
    obtain ⟨f0, f1, f2, f3, f4, f5⟩ := hf it (by simp)
    have st' : s.heap.IsKeyIter it a i es.size ep := by rw [hl]; exact st
    exact next_end (I.ok.hd hc) st' e1 e3 (by omega) fun h' eb => ⟨rfl, I.turned (t' := s.toks) (fun b o hb e => eb b o hb e) f0 f1 f3 f4 f5⟩
  self := fun _ _ _ _ _ st h => wpAny_pyIter_keyiter st h
section
variable {X : Cx} {tg : Expr}
noncomputable def iQ (P : Program) (w : World) (tl : TE) : TI := fun σ H R => tl σ H fun x H1 => ∃ a ep xs, x = .ref a ∧ H1 a = some (dQ P w a ep xs) ∧ R (Itq P w a ep xs) H1
theorem pi_q {l : Expr} {tl : TE} (hl : PE X l tl) : PI X tg l (iQ X.prog X.w tl) := by
  intro pins s σ H R I h
  refine thn (hl pins s σ H _ I h) fun v s1 ⟨x, H1, I1, r1, q1⟩ => ?_
  obtain ⟨a, ep, xs, e, hd, q⟩ := q1
  subst e
  cases r1
  obtain ⟨h1, h2, h3, vs, r, o, es, e1, e2, e3, e4⟩ := QD.raw I1.hok hd
  have hz : es.size = xs.length := by rw [size_of_entries e4]; exact (Paired.length r).symm
  refine iter_dict h2 e1 e2 e3 ?_
  refine ⟨s1.heap.objs.size, [s1.heap.objs.size], _, _, H1, rfl, I1.kept (t' := s1.toks) fun b o e => Heap.get?_push_of_some _ e, turn_q a _ ep xs, ⟨_, Heap.get?_push_size _ rfl, rfl, by rw [hz]; rfl⟩, fun b hb => ?_, q⟩
  have e : b = s1.heap.objs.size := by simpa using hb
  subst e
  exact I1.fpOk (Nat.le_refl _) (I1.hok.fresh (Nat.le_refl _))
end
structure ItN (J : It) (n : Nat) (st : Hp → Prop) (yd : Nat → V → Prop) : Prop where
  go : ∀ i H, st H → i < n → J.go i H
  stop : ∀ i H, st H → n ≤ i → J.stop i H
  yld : ∀ i H x H', st H → J.yld i H x H' → H' = H ∧ yd i x
theorem itn_q {P : Program} {w : World} {a : Addr} {ep : Nat} {xs : List (Qn × Addr × V)} : ItN (Itq P w a ep xs) xs.length (fun H => H a = some (dQ P w a ep xs)) (fun i x => ∃ e, xs[i]? = some e ∧ x = .ref e.2.1) :=
  ⟨fun _ _ h1 h2 => ⟨h1, h2⟩, fun _ _ h1 h2 => ⟨h1, h2⟩, fun _ _ _ _ _ h => h⟩
theorem itn_l {K : PySem.W.Frag} {a : Addr} {xs : List V} : ItN (Itl K a) xs.length (fun H => SqL K H a xs) (fun i x => xs[i]? = some x) :=
  ⟨fun i H h1 h2 => ⟨xs, xs[i], h1, by simp [h2]⟩, fun i H h1 h2 => ⟨xs, h1, h2⟩, fun i H x H' hs h => ⟨h.1, h.2 xs hs⟩⟩
theorem itn_r {lo : Int} {n : Nat} : ItN (Itr lo n) n (fun _ => True) (fun i x => x = .int (lo + i)) := ⟨fun _ _ _ h => h, fun _ _ _ h => h, fun _ _ _ _ _ h => h⟩
theorem for_n {J : It} {n : Nat} {st : Hp → Prop} {yd : Nat → V → Prop} (IN : ItN J n st yd) {g : TG} {tb : TS} {D : Ends} {σ : L2.St} {H : Hp} (Pv : Nat → L2.St → Hp → Prop) (h0 : Pv 0 σ H) (hl : ∀ i σ H, i ≤ n → Pv i σ H → st H)
    (hs : ∀ i x σ H, i < n → yd i x → Pv i σ H → g x σ H fun σ2 H2 => tb { D with nx := Pv (i + 1), ct := Pv (i + 1), bk := D.nx } σ2 H2) (hd : ∀ σ H, Pv n σ H → D.nx σ H) :
    ∃ W : Nat → Nat → L2.St → Hp → Prop, (∃ m, W 0 m σ H) ∧ ∀ i m σ H, W i m σ H →
      (J.stop i H ∧ D.nx σ H) ∨ (J.go i H ∧ ∃ N : L2.St → Hp → Prop, (∀ σ' H', N σ' H' → ∃ m', m' < m ∧ W (i + 1) m' σ' H') ∧ ∀ x H', J.yld i H x H' → g x σ H' fun σ2 H2 => tb { D with nx := N, ct := N, bk := D.nx } σ2 H2) := by
  refine ⟨fun i m σ H => m = n - i ∧ i ≤ n ∧ Pv i σ H, ⟨n, by simp, Nat.zero_le _, h0⟩, ?_⟩
  rintro i m σ H ⟨rfl, hi, p⟩
  have q := hl i σ H hi p
  by_cases hlt : i < n
  · refine .inr ⟨IN.go i H q hlt, Pv (i + 1), fun σ' H' p' => ⟨n - (i + 1), by omega, rfl, hlt, p'⟩, fun x H' y => ?_⟩
    obtain ⟨e, y2⟩ := IN.yld i H x H' q y
    subst e
    exact hs i x σ _ hlt y2 p
  · have e : i = n := by omega
    subst e
    exact .inl ⟨IN.stop _ H q (Nat.le_refl _), hd σ H p⟩
theorem comp_n {J : It} {n : Nat} {st : Hp → Prop} {yd : Nat → V → Prop} (IN : ItN J n st yd) {tt : TT} {te : TE} {σ : L2.St} {H : Hp} {R : List V → Hp → Prop} (Pv : Nat → List V → Hp → Prop) (hz : n ≤ sizeLine) (h0 : Pv 0 [] H) (hl : ∀ i ys H, i ≤ n → Pv i ys H → st H)
    (hs : ∀ i x ys H (NB : Hp → Prop) (NY : V → Hp → Prop), i < n → yd i x → Pv i ys H → (∀ H2, Pv (i + 1) ys H2 → NB H2) → (∀ y H2, Pv (i + 1) (ys ++ [y]) H2 → NY y H2) → tt (some x :: σ) H fun b H2 => if b = true then te (some x :: σ) H2 NY else NB H2)
    (hd : ∀ ys H, Pv n ys H → ys.length ≤ n → R ys H) :
    ∃ W : Nat → Nat → List V → Hp → Prop, (∃ m, W 0 m [] H) ∧ ∀ i m ys H, W i m ys H → (J.stop i H ∧ ys.length ≤ sizeLine ∧ R ys H) ∨
      (J.go i H ∧ ys.length < sizeLine ∧ ∃ N : V → Hp → Prop, (∀ y H2, N y H2 → ∃ m', m' < m ∧ W (i + 1) m' (ys ++ [y]) H2) ∧ ∀ x H', J.yld i H x H' → tt (some x :: σ) H' fun b H2 => if b = true then te (some x :: σ) H2 N else ∃ m', m' < m ∧ W (i + 1) m' ys H2) := by
  refine ⟨fun i m ys H => m = n - i ∧ i ≤ n ∧ ys.length ≤ i ∧ Pv i ys H, ⟨_, rfl, Nat.zero_le _, Nat.le_refl _, h0⟩, ?_⟩
  rintro i m ys H ⟨rfl, hi, hy, p⟩
  have q := hl i ys H hi p
  by_cases hlt : i < n
  · refine .inr ⟨IN.go i H q hlt, by omega, fun y H2 => Pv (i + 1) (ys ++ [y]) H2, fun y H2 p' => ⟨n - (i + 1), by omega, rfl, hlt, by simp; omega, p'⟩, fun x H' y => ?_⟩
    obtain ⟨e, y2⟩ := IN.yld i H x H' q y
    subst e
    exact hs i x ys _ _ _ hlt y2 p (fun H2 z => ⟨n - (i + 1), by omega, rfl, hlt, by omega, z⟩) (fun y H2 z => z)
  · have e : i = n := by omega
    subst e
    exact .inl ⟨IN.stop _ H q (Nat.le_refl _), by omega, hd ys H p hy⟩
end ST
set_option Elab.async false
set_option linter.all false
set_option maxRecDepth 100000
set_option maxHeartbeats 4000000
namespace ST
variable [TN]
open PySem PySem.Spec PyProof.Rows L2
section
variable {prog : Program} {w : World} {A : Around} {E : Value → Shared → Prop} {s : Shared} {d : Addr} {o : Obj} {es : Array DictEntry} {ep : Nat}
theorem from_raw {id : String} {c : Addr} {oc : Obj} {epc : Nat} {P : PySem.Fin → Shared → Prop} (hne : c ≠ d) (hs : (d == sysModules) = false) (hc : s.heap.get? c = some oc) (hcx : oc.ExactDict) (hcd : oc.data = .dict #[] epc)
    (ho : s.heap.get? d = some o) (hx : o.ExactDict) (hd : o.data = .dict es ep) (hz : es.size ≤ sizeLine) (hk : ∀ e ∈ es, ∃ b its, e.key = .ref b ∧ s.heap.IsTuple b its) (hh : ∀ e ∈ es, ¬ (es.filter (·.hash == e.hash)).size > 1)
    (h : ∀ h' o2 ep2, h'.get? c = some o2 → o2.ExactDict → o2.data = .dict es ep2 → Heap.SameBut c s.heap h' → P (.done (.ret .none)) { s with heap := h' }) : wpAny (model prog w) A (Builtin.Dict.updateFrom id c (.ref d) [] .none) P E s := by
  have hT : s.TypeIs (.ref d) "dict" := ⟨o, ho, hx.1⟩
  unfold Builtin.Dict.updateFrom
  refine wpAny_bind (wpAny_typeOf hT ?_)
  rw [if_neg (by decide)]
  unfold Builtin.Dict.merge Builtin.Dict.readDirectly
  refine wpAny_bind (wpAny_bind (wpAny_bind (wpAny_isInstance hT isSubtype_dict_dict ?_)))
  simp only [Bool.not_true, Bool.false_eq_true, if_false]
  refine wpAny_bind (wpAny_specialOf hT F.slot_dict_iter.lookup (wpAny_pure ?_))
  simp only [beq_self_eq_true, if_true]
  refine wpAny_bind (wpAny_pure (merge_raw hne hs hc hcx hcd ho hd hz hk hh fun h' o2 ep2 e1 e2 e3 sb => ?_))
  show wpAny _ _ (Builtin.Dict.addKeywords c [] >>= _) _ _ _
  exact wpAny_bind (wpAny_pure (wpAny_pure (h h' o2 ep2 e1 e2 e3 sb)))
theorem call_dict_raw {Q : Value → Shared → Prop} (hs : (d == sysModules) = false) (ho : s.heap.get? d = some o) (hx : o.ExactDict) (hd : o.data = .dict es ep) (hz : es.size ≤ sizeLine) (hk : ∀ e ∈ es, ∃ b its, e.key = .ref b ∧ s.heap.IsTuple b its)
    (hh : ∀ e ∈ es, ¬ (es.filter (·.hash == e.hash)).size > 1) (h : ∀ h' o2 ep2, h'.get? s.heap.objs.size = some o2 → o2.ExactDict → o2.data = .dict es ep2 → (∀ b q, s.heap.get? b = some q → h'.get? b = some q) → Q (.ref s.heap.objs.size) { s with heap := h' }) :
    wpAny (model prog w) A (call (.type "dict") [.ref d]) Q E s := by
  refine callType_codes (Q₁ := fun obj s₁ => obj = .ref s.heap.objs.size ∧ s₁ = { s with heap := s.heap.push { cls := .type "dict", data := .dict #[] } }) F.kt_called_dict (F.kt_typeCall_dict_1 _) F.entry_dict_init (kt_code_dict_new _ ⟨rfl, rfl⟩) ?_
  rintro obj s₁ ⟨rfl, rfl⟩
  have hnew : (s.heap.push { cls := .type "dict", data := .dict #[] }).get? s.heap.objs.size = some { cls := .type "dict", data := .dict #[] } := Heap.get?_push_size _ rfl
  have hne : s.heap.objs.size ≠ d := fun z => absurd (Heap.lt_size ho) (by rw [← z]; exact Nat.lt_irrefl _)
  refine ⟨⟨_, hnew, rfl⟩, F.args_dict_init_2 _ _, ?_⟩
  unfold Builtin.«dict.__init__» Builtin.Dict.selfAndRest
  refine wpAny_bind (wpAny_bind (wpAny_notOrdered_dict ⟨_, hnew, rfl⟩ ?_))
  show wpAny _ _ (pure (s.heap.objs.size, [Value.ref d])) _ _ _
  refine wpAny_pure ?_
  show wpAny _ _ (Builtin.Dict.updateFrom "dict.__init__" s.heap.objs.size (.ref d) [] .none) _ _ _
  refine from_raw (s := { s with heap := s.heap.push { cls := .type "dict", data := .dict #[] } }) hne hs hnew ⟨rfl, rfl, rfl⟩ rfl (Heap.get?_push_of_some _ ho) hx hd hz (fun e he => ?_) hh fun h' o2 ep2 e1 e2 e3 sb => ?_
  · obtain ⟨b, its, e1, ob, q1, q2⟩ := hk e he
    exact ⟨b, its, e1, ob, Heap.get?_push_of_some _ q1, q2⟩
  · exact ⟨rfl, h h' o2 ep2 e1 e2 e3 fun b q hq => (sb.2 b (Nat.ne_of_lt (Heap.lt_size hq))).trans (Heap.get?_push_of_some _ hq)⟩
end
section
variable {X : Cx}
theorem call_dictQ : CallR X (.type "dict") (fun xs H Q => ∃ a ep ys, xs = [.ref a] ∧ H a = some (dQ X.prog X.w a ep ys) ∧ (∀ x ∈ ys, QIs H (.ref x.2.1) x.1) ∧ Apart X.prog X.w ys ∧ ∀ p ep', H p = none → Q (.ref p) (upd H p (dQ X.prog X.w p ep' ys))) := by
  intro pins s σ H xs us Q I r h
  obtain ⟨a, ep, ys, rfl, e, k, ap, z⟩ := h
  obtain ⟨u, rfl, ru⟩ := vals1 r
  cases ru
  obtain ⟨h1, h2, h3, vs, r, o, es, e1, e2, e3, e4⟩ := QD.raw I.hok e
  have hl : es.size = ys.length := by rw [size_of_entries e4]; exact (Paired.length r).symm
  refine call_dict_raw h2 e1 e2 e3 (by omega) (fun e he => by obtain ⟨_, b, its, q1, _, q2⟩ := keys_es I.hok r k e4 e he; exact ⟨b, its, q1, q2⟩) (apart_es r e4 ap) fun h' o2 ep2 q1 q2 q3 old => ?_
  exact ⟨.ref s.heap.objs.size, _, I.laid (t' := s.toks) old (Nat.le_refl _) (dQ_ok h1 (beq_eq_false_iff_ne.mpr (Ne.symm (Nat.ne_of_lt I.big))) h3 r q1 q2 q3 e4), rfl, z _ ep2 (I.hok.fresh (Nat.le_refl _))⟩
theorem mt_updateQ : MtM X "dict.update" (fun x vs H Q => ∃ c epc a ep ys, x = .ref c ∧ vs = [.ref a] ∧ H c = some (dQ X.prog X.w c epc []) ∧ H a = some (dQ X.prog X.w a ep ys) ∧ (∀ x ∈ ys, QIs H (.ref x.2.1) x.1) ∧ Apart X.prog X.w ys ∧ c ≠ a ∧ ∀ ep', Q .non (upd H c (dQ X.prog X.w c ep' ys))) := by
  intro pins s σ H x vs v us Q I rx rv h
  obtain ⟨c, epc, a, ep, ys, rfl, rfl, ec, e, k, ap, hne, z⟩ := h
  cases rx
  obtain ⟨u, rfl, ru⟩ := rv.one
  cases ru
  obtain ⟨h1, h2, h3, vs, r, o, es, e1, e2, e3, e4⟩ := QD.raw I.hok e
  obtain ⟨_, g2, _, vs0, r0, oc, es0, c1, c2, c3, c4⟩ := QD.raw I.hok ec
  cases r0
  have es0' : es0 = #[] := Array.size_eq_zero_iff.mp (by rw [← Array.length_toList, c4]; rfl)
  subst es0'
  have hl : es.size = ys.length := by rw [size_of_entries e4]; exact (Paired.length r).symm
  have hT : s.TypeIs (.ref c) "dict" := ⟨oc, c1, c2.1⟩
  refine wpAny_call_entry F.slot_dict_update hT F.entry_dict_update ?_ (F.args_dict_update_2 _ _)
  unfold Builtin.«dict.update» Builtin.Dict.selfAndRest
  refine wpAny_bind (wpAny_bind (wpAny_notOrdered_dict hT ?_))
  show wpAny _ _ (pure (c, [Value.ref a])) _ _ s
  refine wpAny_pure ?_
  show wpAny _ _ (Builtin.Dict.updateFrom "dict.update" c (.ref a) [] .none) _ _ s
  refine from_raw hne h2 c1 c2 c3 e1 e2 e3 (by omega) (fun e he => by obtain ⟨_, b, its, q1, _, q2⟩ := keys_es I.hok r k e4 e he; exact ⟨b, its, q1, q2⟩) (apart_es r e4 ap) fun h' o2 ep2 q1 q2 q3 sb => ?_
  exact ⟨.none, rfl, .non, _, I.write (x := c) (e := c) (t' := s.toks) (mut_dQ ec) (.inl rfl) (fun b q hb e => (sb.2 b hb).trans e) ⟨o2, q1⟩ (dQ_ok h1 g2 h3 r q1 q2 q3 e4), rfl, z ep2⟩
theorem mt_getQ (hu : X.A.units + 2 < cLine) : MtM X "dict.get" (fun x vs H Q => ∃ a kvs y q v, x = .ref a ∧ vs = [y, v] ∧ QD X.prog X.w H a kvs ∧ QIs H y q ∧ Q ((valV kvs q).getD v) H) := by
  intro pins s σ H x vs v us Q I rx rv h
  obtain ⟨a, kvs, y, q, v2, rfl, rfl, ⟨ep, ys, e, rfl, k⟩, kq, z⟩ := h
  cases rx
  obtain ⟨u1, u2, rfl, r1, r2⟩ := rv.two
  obtain ⟨b, rfl⟩ := qis_ref kq
  cases r1
  obtain ⟨h1, h2, h3, vs, r, dd⟩ := QD.at I.hok e k
  refine call_meetsIn PySem.F.slot_dict_get dd.typeIs PySem.F.entry_dict_get (PySem.F.args_dict_get_3 _ _ _) (meetsH_dict_get_default (qKind X.prog X.w) a b h2 u2) ⟨q_room hu, q.key, vs, q_key I.hok kq, dd, ⟨_, H, I.tok _, (r.val q).getD r2, z⟩⟩
end
end ST
set_option Elab.async false
set_option linter.all false
set_option maxRecDepth 100000
set_option maxHeartbeats 4000000
namespace ST
variable [TN]
open PySem PySem.Spec PyProof.Rows L2
noncomputable def dropQ (xs : List (Qn × Addr × V)) (q : Qn) : List (Qn × Addr × V) := xs.filter fun x => decide (x.1 ≠ q)
theorem drop_erase : ∀ {xs : List (Qn × Addr × V)} {j : Nat} {x : Qn × Addr × V}, (xs.map (·.1)).Nodup → xs[j]? = some x → xs.eraseIdx j = dropQ xs x.1
  | [], j, x, _, h => by simp at h
  | y :: t, 0, x, hn, h => by
    have e : y = x := by simpa using h
    subst e
    rw [List.map_cons, List.nodup_cons] at hn
    unfold dropQ
    rw [List.eraseIdx_cons_zero, List.filter_cons, if_neg (by simp)]
    refine (List.filter_eq_self.mpr fun z hz => ?_).symm
    rw [decide_eq_true_iff]
    exact fun e => hn.1 (List.mem_map.mpr ⟨z, hz, e⟩)
  | y :: t, j + 1, x, hn, h => by
    rw [List.map_cons, List.nodup_cons] at hn
    have h' : t[j]? = some x := by simpa using h
    have hm : x.1 ∈ t.map (·.1) := List.mem_map.mpr ⟨x, List.mem_of_getElem? h', rfl⟩
    have hne : y.1 ≠ x.1 := fun e => hn.1 (by rw [e]; exact hm)
    unfold dropQ
    rw [List.eraseIdx_cons_succ, List.filter_cons, if_pos (by simpa using hne), drop_erase hn.2 h']
    rfl
theorem QP.erase : ∀ {xs : List (Qn × Addr × V)} {vs : List (QK × Addr × Value)} (j : Nat), QP xs vs → QP (xs.eraseIdx j) (vs.eraseIdx j)
  | _, _, _, .nil => .nil
  | _, _, 0, .cons _ t => t
  | _, _, j + 1, .cons h t => .cons h (QP.erase j t)
theorem prj_drop (xs : List (Qn × Addr × V)) (q : Qn) : prj (dropQ xs q) = dropK (prj xs) q := by
  unfold dropQ dropK prj
  rw [List.filter_map]
  rfl
theorem map_eraseG {α β : Type} (f : α → β) : ∀ (l : List α) (j : Nat), (l.eraseIdx j).map f = (l.map f).eraseIdx j
  | [], _ => rfl
  | _ :: _, 0 => rfl
  | x :: t, j + 1 => congrArg (f x :: ·) (map_eraseG f t j)
section
variable {X : Cx}
theorem mt_popQ (hu : X.A.units + 2 < cLine) : MtM X "dict.pop" (fun x vs H Q => ∃ a ep ys y q v, x = .ref a ∧ vs = [y] ∧ H a = some (dQ X.prog X.w a ep ys) ∧ (∀ x ∈ ys, QIs H (.ref x.2.1) x.1) ∧ QIs H y q ∧ valV (prj ys) q = some v ∧ ∀ ep', Q v (upd H a (dQ X.prog X.w a ep' (dropQ ys q)))) := by
  intro pins s σ H x vs v us Q I rx rv h
  obtain ⟨a, ep, ys, y, q, v2, rfl, rfl, e, k, kq, hv, z⟩ := h
  cases rx
  obtain ⟨u, rfl, ru⟩ := rv.one
  obtain ⟨b, rfl⟩ := qis_ref kq
  cases ru
  obtain ⟨h1, h2, h3, vs, r, o, es, e1, e2, e3, e4⟩ := QD.raw I.hok e
  obtain ⟨_, _, _, vs', r', dd⟩ := QD.at I.hok e k
  have hl : es.size = vs.length := size_of_entries e4
  have hly : ys.length = vs.length := Paired.length r
  have hT : s.TypeIs (.ref a) "dict" := ⟨o, e1, e2.1⟩
  have his : ∀ x ∈ vs, (qKind X.prog X.w).is s.heap x.1 x.2.1 := fun x hx => by
    obtain ⟨i, hi⟩ := List.mem_iff_getElem?.mp hx
    obtain ⟨y0, hy0⟩ : ∃ y0, ys[i]? = some y0 := ⟨_, List.getElem?_eq_getElem (by rw [hly]; exact (List.getElem?_eq_some_iff.mp hi).1)⟩
    obtain ⟨v0, q1, q2, q3, _⟩ := r.get hy0
    rw [hi] at q1
    cases q1
    have := q_key I.hok (k y0 (List.mem_of_getElem? hy0))
    rw [q2, q3] at this
    exact this
  have hn : (vs.map (·.1)).Nodup := by
    rw [r.keys]
    have zz := nodup_key h3
    rw [List.map_map] at zz
    exact zz
  have hne : es.isEmpty = false := by
    rw [show es.isEmpty = decide (es.size = 0) from rfl, decide_eq_false]
    intro z0
    rw [hl, ← hly] at z0
    rw [List.length_eq_zero_iff.mp z0] at hv
    cases hv
  refine wpAny_call_entry F.slot_dict_pop hT F.entry_dict_pop ?_ (F.args_dict_pop_2 _ _)
  unfold Builtin.«dict.pop» Builtin.Dict.keyAndDefault
  refine wpAny_bind (wpAny_bind (wpAny_notOrdered_dict hT ?_))
  show wpAny _ _ (pure (a, Value.ref b, none)) _ _ s
  refine wpAny_pure ?_
  show wpAny _ _ (if (keyPart (Value.ref b)).isSome = true then _ else dictEntries a >>= _) _ _ s
  rw [if_neg (fun z : (keyPart (Value.ref b)).isSome = true => Bool.false_ne_true z)]
  refine wpAny_bind (wpAny_dictEntries e1 e3 (wpAny_bind (wpAny_pure ?_)))
  rw [hne]
  simp only [Bool.false_eq_true, if_false]
  unfold Builtin.Dict.takeOut
  refine wpAny_bind (wpAny_holding (wpAny_bind ((qKind X.prog X.w).pyHash (q_room hu) (q_key I.hok kq) (wpAny_bind (wpAny_dictFind_heap (knd := qKind X.prog X.w) (s := { s with toks := s.toks + (qKind X.prog X.w).draws q.key }) (q_room hu) (q_key I.hok kq) e1 e3 e4 his hn ?_ ?_)))))
  · intro no
    exfalso
    have zz := r.val q
    rw [hv, atKey_none_of_get no] at zz
    exact zz
  · intro j p hj
    have hjl : j < es.size := by rw [hl]; exact (List.getElem?_eq_some_iff.mp hj).1
    have hje : es[j]? = some (entryOfKey (qKind X.prog X.w) (q.key, p)) := by rw [← Array.getElem?_toList, e4, List.getElem?_map, hj]; rfl
    obtain ⟨y0, hy0⟩ : ∃ y0, ys[j]? = some y0 := ⟨_, List.getElem?_eq_getElem (by rw [hly, ← hl]; exact hjl)⟩
    obtain ⟨v0, q1, q2, q3, q4⟩ := r.get hy0
    rw [hj] at q1
    cases q1
    have ey : y0.1 = q := Qn.key_inj q2
    have ev : y0.2.2 = v2 := by
      have zz : valV (prj ys) q = some y0.2.2 := by
        have key : ∀ {l : List (Qn × Addr × V)} {j : Nat}, (l.map (·.1)).Nodup → l[j]? = some y0 → valV (prj l) y0.1 = some y0.2.2 := by
          intro l
          induction l with
          | nil => intro j _ h; simp at h
          | cons x t ih =>
            intro j hn h
            rw [List.map_cons, List.nodup_cons] at hn
            cases j with
            | zero =>
              have e0 : x = y0 := by simpa using h
              subst e0
              exact valV_pos (p := (x.1, x.2.2)) rfl
            | succ j =>
              have h' : t[j]? = some y0 := by simpa using h
              have hne : ¬ x.1 = y0.1 := fun e0 => hn.1 (by rw [e0]; exact List.mem_map.mpr ⟨y0, List.mem_of_getElem? h', rfl⟩)
              exact (valV_neg (p := (x.1, x.2.2)) hne).trans (ih hn.2 h')
        rw [← ey]
        exact key h3 hy0
      rw [zz] at hv
      exact Option.some.inj hv
    refine wpAny_bind (wpAny_dictEntries (s := { s with toks := s.toks + (qKind X.prog X.w).draws q.key }) e1 e3 ?_)
    rw [hje]
    refine wpAny_bind (wpAny_updateDictKeys (hz := by omega) (s := { s with toks := s.toks + (qKind X.prog X.w).draws q.key }) e1 e3 (wpAny_pure ?_))
    simp only [Option.isNone_some, Bool.false_eq_true, if_false]
    refine wpAny_bind (wpAny_letGo (wpAny_pure ⟨_, rfl, v2, _, I.write (x := a) (e := a) (t' := s.toks + (qKind X.prog X.w).draws q.key) (mut_dQ e) (.inl rfl) (fun c ob hc zz => ((Heap.SameBut.update s.heap a _).2 c hc).trans zz) ⟨_, Heap.get?_update_self _ e1 (Obj.isFreed_of_dict (Obj.data_mapDictKeys e3 _))⟩ ?_, by rw [← ev]; exact q4, z (ep + 1)⟩))
    have er := drop_erase h3 hy0
    rw [ey] at er
    refine dQ_ok (vs := vs.eraseIdx j) (by unfold dropQ; exact Nat.le_trans (List.length_filter_le _ _) h1) h2 ?_ (by rw [← er]; exact r.erase j) (Heap.get?_update_self _ e1 (Obj.isFreed_of_dict (Obj.data_mapDictKeys e3 _))) (e2.mapDictKeys _) (Obj.data_mapDictKeys e3 _) ?_
    · unfold dropQ
      exact List.Sublist.nodup (List.Sublist.map _ List.filter_sublist) h3
    · have e5 : (es.eraseIdxIfInBounds j).toList = es.toList.eraseIdx j := by
        simp [Array.eraseIdxIfInBounds, hjl]
      rw [e5, e4]
      exact (map_eraseG _ vs j).symm
end
end ST
set_option Elab.async false
set_option linter.all false
set_option maxRecDepth 100000
set_option maxHeartbeats 4000000
namespace ST
variable [TN]
open PySem PySem.Spec PyProof.Rows L2
section
variable {X : Cx} {o e : Expr} {es : List Expr} {to : TE} {t : TA} {name : Str} {apos cpos : Pos} {id : String} {r : V → List V → Hp → VK → Prop}
noncomputable def IsDct (P : Program) (w : World) (H : Hp) (x : V) : Prop := ∃ a, x = .ref a ∧ ((∃ ep ys, H a = some (dQ P w a ep ys)) ∨ (∃ kvs, H a = some (.dK kvs)) ∨ ∃ kvs, H a = some (.dT kvs))
theorem dct_ty {pins : List (Addr × Obj)} {σ : L2.St} {H : Hp} {s : Shared} {x : V} {v : Value} (I : Inv X pins σ H s) (r : RelV x v) (d : IsDct X.prog X.w H x) : s.TypeIs v "dict" ∧ ∀ a, v = .ref a → ∃ ob, s.heap.get? a = some ob ∧ ob.dict = none := by
  obtain ⟨a, rfl, d⟩ := d
  cases r
  have z : ∃ o, s.heap.get? a = some o ∧ o.ExactDict := by
    rcases d with ⟨ep, ys, e⟩ | ⟨kvs, e⟩ | ⟨kvs, e⟩
    · obtain ⟨_, _, _, _, _, o, _, e1, e2, _⟩ := QD.raw I.hok e
      exact ⟨o, e1, e2⟩
    · obtain ⟨_, _, _, _, o, _, _, e1, e2, _⟩ := I.hok a _ e
      exact ⟨o, e1, e2⟩
    · obtain ⟨_, _, _, _, o, _, _, e1, e2, _⟩ := I.hok a _ e
      exact ⟨o, e1, e2⟩
  obtain ⟨o, e, ex⟩ := z
  exact ⟨⟨o, e, ex.1⟩, fun b q => by cases q; exact ⟨o, e, ex.2.1⟩⟩
noncomputable def tBMD (P : Program) (w : World) (r : V → List V → Hp → VK → Prop) (to : TE) (t : TA) : TE := fun σ H Q => to σ H fun x H1 => IsDct P w H1 x ∧ t σ H1 fun xs H2 => r x xs H2 Q
theorem pe_bmD (slot : Slot "dict" name id) (hty : typeOf (.builtin id) = pure (.type "method_descriptor")) (hm : MtM X id r) (ho : PE X o to) (ha : PA X (e :: es) t)
    (hbase : attributeBase o name X.env (eval o X.env) = eval o X.env := by rfl)
    (hfew : ((backTo cpos (starEach (e :: es) X.env)).all (fun x => !x.1) && (backToKw cpos (keywordEach [] X.env)).all (fun x => x.1.isSome)
      && decide ((e :: es).length + ([] : List Keyword).length + (if ([] : List Keyword).isEmpty then 0 else 1) < 30)) = true := by rfl)
    (hline : (apos.endLine == cpos.line) = true := by rfl) (hs : starEach (e :: es) X.env = (false, eval e X.env) :: starEach es X.env := by rfl) (hplain : (backTo cpos (starEach es X.env)).any (·.1) = false := by rfl) :
    PE X (.Call (.Attribute o name apos) (e :: es) [] cpos) (tBMD X.prog X.w r to t) := by
  intro pins s σ H Q I h
  refine wpAny_Call_method_late hbase hfew hline rfl (thn (ho pins s σ H _ I h) fun v s1 ⟨x, H1, I1, r1, ty, q1⟩ => ?_)
  obtain ⟨h1, h2⟩ := dct_ty I1 r1 ty
  refine ⟨"dict", id, PySem.F.plainAttrs_dict, slot, hty, h1, h2, ?_⟩
  have hA := ha cpos pins s1 σ H1 _ I1 q1
  rw [hs] at hA ⊢
  refine Calls.callWith_builtin (by show (false || (backTo cpos (starEach es X.env)).any (·.1)) = false; rw [hplain] <;> rfl) (Calls.evalArgs_plain ?_)
  exact thn hA fun us s2 ⟨vs, H2, I2, r2, q2⟩ => hm pins s2 σ H2 x vs v us Q I2 r1 r2 q2
theorem mt_updateK : MtM X "dict.update" (fun x vs H Q => ∃ c a kvs more, x = .ref c ∧ vs = [.ref a] ∧ H c = some (.dK kvs) ∧ H a = some (.dK more) ∧ c ≠ a ∧ kvs.length + more.length ≤ sizeLine ∧ Q .non (upd H c (.dK (mergeK kvs more)))) := by
  intro pins s σ H x vs v us Q I rx rv h
  obtain ⟨c, a, kvs, more, rfl, rfl, ec, ea, hne, hz, q⟩ := h
  cases rx
  obtain ⟨u, rfl, ru⟩ := rv.one
  cases ru
  obtain ⟨z1, s1, vs1, r1, d1⟩ := dk_of I.hok ec
  obtain ⟨z2, s2, vs2, r2, d2⟩ := dk_of I.hok ea
  refine call_meetsIn F.slot_dict_update d1.typeIs F.entry_dict_update (F.args_dict_update_2 _ _) (meets_dict_update (mixKind X.prog X.w) c a hne s2) ⟨vs1, vs2, d1, d2, by rw [← r1.length, ← r2.length]; exact hz, fun h' d' _ sb => ?_⟩
  have he : ∃ q, h'.get? c = some q := let ⟨q, _, _, hq, _⟩ := d'; ⟨q, hq⟩
  exact ⟨.non, _, d_write (t' := s.toks) I (by rw [ec]; exact True.intro) sb he (dk_new (Nat.le_trans (length_mergeK more kvs) (by omega)) s1 (KV.merge r2 r1) d'), rfl, q⟩
theorem mt_getT (hu : X.A.units + 1 < cLine) : MtM X "dict.get" (fun x vs H Q => ∃ a y v o, x = .ref a ∧ vs = [y, v] ∧ DGet H a y o ∧ Q (o.getD v) H) := by
  intro pins s σ H x vs v us Q I rx rv h
  obtain ⟨a, y, v2, ov, rfl, rfl, g, z⟩ := h
  cases rx
  obtain ⟨u1, u2, rfl, r1, r2⟩ := rv.two
  exact d_get2 hu I g r1 r2 fun w' s' I' rw' => ⟨_, H, I', rw', z⟩
theorem mt_setdefT (hu : X.A.units + 1 < cLine) : MtM X "dict.setdefault" (fun x vs H Q => ∃ a b kvs k v, x = .ref a ∧ vs = [.ref b, v] ∧ H a = some (.dT kvs) ∧ H b = some (.tup (k.map kV)) ∧ valV kvs k = none ∧ kvs.length < sizeLine ∧ Q v (upd H a (.dT (kvs ++ [(k, v)])))) := by
  intro pins s σ H x vs v us Q I rx rv h
  obtain ⟨a, b, kvs, k, v2, rfl, rfl, ea, eb, hv, hz, q⟩ := h
  cases rx
  obtain ⟨u1, u2, rfl, r1, r2⟩ := rv.two
  cases r1
  obtain ⟨z1, hs, xs, rel, dd⟩ := dt_of I.hok ea
  obtain ⟨o, es, ep, e1, e2, e3, e4, his, hn⟩ := dd
  have hlen : es.size = kvs.length := by rw [size_of_entries e4]; exact (Paired.length rel).symm
  have hT : s.TypeIs (.ref a) "dict" := ⟨o, e1, e2.1⟩
  refine wpAny_call_entry F.slot_dict_setdefault hT F.entry_dict_setdefault ?_ (F.args_dict_setdefault_3 _ _ _)
  unfold Builtin.«dict.setdefault» Builtin.Dict.keyAndDefault
  refine wpAny_bind (wpAny_bind (wpAny_notOrdered_dict hT ?_))
  show wpAny _ _ (pure (a, Value.ref b, some u2)) _ _ s
  refine wpAny_pure ?_
  show wpAny _ _ (if (a == sysModules) = true then _ else _) _ _ s
  rw [if_neg (by rw [hs]; exact Bool.false_ne_true)]
  unfold dictSetDefault
  have hk := key_of (P := X.prog) (w := X.w) I.hok eb
  refine wpAny_bind (wpAny_holding (wpAny_bind ((tupleKind (mixKind X.prog X.w)).pyHash (tupleKind_room_in1 hu) hk (wpAny_bind (wpAny_dictFind_heap (knd := tupleKind (mixKind X.prog X.w)) (s := { s with toks := s.toks + (tupleKind (mixKind X.prog X.w)).draws k }) (tupleKind_room_in1 hu) hk e1 e3 e4 his hn ?_ ?_)))))
  · intro no
    refine wpAny_bind (wpAny_rule (wpAny_bind (wpAny_updateDictKeys (hz := by omega) (s := { s with toks := s.toks + (tupleKind (mixKind X.prog X.w)).draws k }) e1 e3 (wpAny_pure (wpAny_pure ⟨u2, rfl, v2, _, I.write (x := a) (e := a) (t' := s.toks + (tupleKind (mixKind X.prog X.w)).draws k) (by rw [ea]; exact True.intro) (.inl rfl) (fun c ob hc zz => ((Heap.SameBut.update s.heap a _).2 c hc).trans zz) ⟨_, Heap.get?_update_self _ e1 (Obj.isFreed_of_dict (Obj.data_mapDictKeys e3 _))⟩ ?_, r2, q⟩)))))
    refine ⟨by simp; omega, hs, xs ++ [(k, b, u2)], ?_, _, _, ep + 1, Heap.get?_update_self _ e1 (Obj.isFreed_of_dict (Obj.data_mapDictKeys e3 _)), e2.mapDictKeys _, Obj.data_mapDictKeys e3 _, ?_, ?_⟩
    · have eb' : upd H a (.dT (kvs ++ [(k, v2)])) b = some (.tup (k.map kV)) := by rw [upd_ne (ne_of eb ea (by intro z; cases z))]; exact eb
      refine Paired.snoc (Paired.mapP rel fun p q z => ⟨z.1, ?_, z.2.2⟩) ⟨rfl, eb', r2⟩
      rw [upd_ne (ne_of z.2.1 ea (by intro z; cases z))]
      exact z.2.1
    · rw [List.map_append, ← e4]
      simp [entryOfKey]
    · rw [List.map_append]
      exact nd_snoc hn (not_mem_keys_of_get no)
  · intro j p hj
    exfalso
    have zz := rel.val k
    rw [hv, atKey_of_get hn hj] at zz
    exact zz
end
end ST
set_option Elab.async false
set_option linter.all false
set_option maxRecDepth 100000
set_option maxHeartbeats 4000000
namespace ST
variable [TN]
open PySem PySem.Spec PyProof.Rows L2
structure Lm (X : Cx) (P : Addr) : Prop where
  code : ∃ c, X.env.code = .ref c ∧ PySem.W.codeHdIn X.K c P = true
  bm : ∃ bm o, X.mg "__builtins__" = some (.ref bm) ∧ bm ≠ builtinsNs ∧ bm ≠ mainGlobals ∧ X.base.get? bm = some o ∧ o.cls = .type "module" ∧ o.dict = some builtinsNs ∧ o.data = .plain
noncomputable abbrev lamO (q : Str) (params : Arguments) (body : Expr) (scope : Scope) (cl : List (Str × Addr)) (pm cv ctv : Value) : Obj :=
  { cls := .type "function", data := .func (PySem.W.kla_fn "<lambda>" q params body scope cl pm cv ctv) }
structure LamAt (H : Hp) (pins : List (Addr × Obj)) (q : Str) (params : Arguments) (body : Expr) (scope : Scope) (cl : List (Str × Addr)) (f : Addr) : Prop where
  pin : ∃ pm c ctv, (f, lamO q params body scope cl pm (.ref c) ctv) ∈ pins ∧ ∃ o u vs t, H c = some (.frz o u) ∧ o.data = .fields vs ∧ vs[1]? = some (.str q t)
theorem LamAt.mono {H H' : Hp} (g : Same H H') {pins : List (Addr × Obj)} {q : Str} {params : Arguments} {body : Expr} {scope : Scope} {cl : List (Str × Addr)} {f : Addr} (h : LamAt H pins q params body scope cl f) : LamAt H' pins q params body scope cl f := by
  obtain ⟨pm, c, ctv, m, o, u, vs, t, e, r⟩ := h.pin
  exact ⟨pm, c, ctv, m, o, u, vs, t, g _ _ e, r⟩
theorem among_snoc {pos : Pos} {a b : Int} {c cv : Value} : ∀ (l : List Value), TriplesOk l → codeAmong pos (l ++ [rawInt a, rawInt b, c]) = some cv → codeAmong pos l = some cv ∨ cv = c := by
  intro l
  fun_induction TriplesOk l with
  | case1 =>
    intro _ h
    rw [List.nil_append] at h
    simp only [codeAmong, rawInt] at h
    split at h
    · exact .inr (Option.some.inj h).symm
    · simp [codeAmong] at h
  | case2 a' t b' u x rest ih =>
    intro ht h
    simp only [List.cons_append, codeAmong] at h ⊢
    split at h
    · rename_i z
      rw [if_pos z]
      exact .inl h
    · rename_i z
      rw [if_neg z]
      exact ih ht h
  | case3 => intro h; exact h.elim
section
variable {X : Cx} {pins : List (Addr × Obj)} {σ : L2.St} {H : Hp} {s : Shared}
theorem Inv.glob' (I : Inv X pins σ H s) : s.heap.Ns mainGlobals X.mg := I.mod.glob.keeps I.bk
theorem Inv.pin1 {f : Addr} {o : Obj} (I : Inv X pins σ H s) (e : s.heap.get? f = some o) (hn : H f = none) (hL : f ≠ X.env.locals) (hs : f ∉ X.fs) (hc : ∀ v, o.data ≠ .cell v) : Inv X ((f, o) :: pins) σ H s :=
  I.pins_of fun p hp => by
    rcases List.mem_cons.mp hp with z | z
    · subst z; exact ⟨e, hn, hL, hs, hc⟩
    · exact I.pin p (List.mem_append_right _ z)
theorem lam_make {P : Addr} {params : Arguments} {body : Expr} {scope : Scope} {lpos : Pos} {cl : List (Str × Addr)} (L : Lm X P) (hcl : closureFor scope X.env = pure cl) (hq : X.env.qual ++ "<lambda>" = TN.nm P) (hdef : defaultsOf params X.env = ([], []))
    (I : Inv X pins σ H s) (T : TabQ H P (TN.nm P)) {E : Value → Shared → Prop} {Q : Value → Shared → Prop}
    (h : ∀ f H' o s', Same H H' → Inv X ((f, o) :: pins) σ H' s' → LamAt H' ((f, o) :: pins) (TN.nm P) params body scope cl f → Q (.ref f) s') : wpAny (model X.prog X.w) X.A (eval (.Lambda params body scope lpos) X.env) Q E s := by
  obtain ⟨c, hcode, hd⟩ := L.code
  obtain ⟨bm, ob, b1, b2, b3, b4, b5, b6, b7⟩ := L.bm
  obtain ⟨ps, eP, tr, good⟩ := T
  have hP : s.heap.get? P = some (PySem.W.tabObj ps) := I.hok P _ eP
  have CH : PySem.W.CodeHd s.heap c P := PySem.W.codeHd_of_K I.kIn hd
  have hg := Inv.glob' I
  have hgP : mainGlobals ≠ P := fun z => by
    obtain ⟨o, es, ep, e, d, _⟩ := hg
    rw [z, hP] at e
    cases e
    cases d
  have hbP : bm ≠ P := fun z => by
    have e := I.bk _ _ b4
    rw [z, hP] at e
    cases e
    cases b5
  have B : s.heap.BuiltinsAt X.mg P := ⟨bm, ob, b1, b2, b3, hbP, I.bk _ _ b4, b5, b6, b7⟩
  refine PySem.W.kla_eval hdef ?_
  rw [hq]
  cases hf : codeAmong lpos ps.toList with
  | some cv =>
    obtain ⟨c', oc, u, vs, t, rfl, ec, ed, ev⟩ := good lpos cv hf
    refine PySem.W.kla_makeFunctionHit (mg := X.mg) hcl I.ok.glob hg hcode CH hP tr hf B fun ctv h' tk old hsz => ?_
    have I1 : Inv X pins σ H { s with heap := h'.push (lamO (TN.nm P) params body scope cl ((X.mg "__name__").getD .none) (.ref c') ctv), toks := tk } := I.kept fun b o e => Heap.get?_push_of_some _ (old b o e)
    refine h h'.objs.size H _ _ (Same.refl H) (Inv.pin1 I1 (Heap.get?_push_size _ rfl) (I.hok.fresh hsz) ?_ (I.nofs hsz) (fun v z => nomatch z)) ⟨_, c', ctv, List.mem_cons_self, oc, u, vs, t, ec, ed, ev⟩
    exact fun z => absurd (Nat.lt_of_lt_of_le I.lt hsz) (by rw [z]; exact Nat.lt_irrefl _)
  | none =>
    refine PySem.W.kla_makeFunction (mg := X.mg) hcl I.ok.glob hg hcode CH hP tr hf hgP B fun c' ctv h' tk ext hge hlt hrec htab => ?_
    obtain ⟨c2, oc, vs, t, e2, hoc, hdc, hv⟩ := hrec
    cases e2
    have hHc : H c' = none := I.hok.fresh hge
    have hcP : c' ≠ P := fun z => by rw [z] at hHc; rw [hHc] at eP; cases eP
    generalize hfo : lamO (TN.nm P) params body scope cl ((X.mg "__name__").getD .none) (.ref c') ctv = fo
    have hfo' : PySem.W.kla_obj "<lambda>" (TN.nm P) params body scope cl ((X.mg "__name__").getD .none) c' ctv = fo := hfo
    rw [hfo']
    have hnc : ∀ v, fo.data ≠ .cell v := fun v z => by rw [← hfo] at z; exact nomatch z
    have hsz : s.heap.objs.size ≤ h'.objs.size := Nat.le_of_lt (Nat.lt_of_le_of_lt hge hlt)
    let H' : Hp := upd (upd H c' (.frz oc (.ext fun _ => True))) P (.tbl (ps ++ #[rawInt lpos.line, rawInt lpos.col, .ref c']))
    have keepH : ∀ b o, b ≠ P → b ≠ c' → H b = some o → H' b = some o := fun b o h1 h2 e => by show upd _ _ _ b = _; rw [upd_ne h1, upd_ne h2]; exact e
    have eP' : H' P = some (.tbl (ps ++ #[rawInt lpos.line, rawInt lpos.col, .ref c'])) := upd_same
    have ec' : H' c' = some (.frz oc (.ext fun _ => True)) := by show upd _ _ _ c' = _; rw [upd_ne hcP, upd_same]
    have noc : ∀ b o, H b = some o → b ≠ c' := fun b o e z => by rw [z, hHc] at e; cases e
    have noP : ∀ b o, (∀ ps, o ≠ HO.tbl ps) → H b = some o → b ≠ P := fun b o n e z => by rw [z, eP] at e; exact n ps (Option.some.inj e).symm
    have old : ∀ b o, b ≠ P → s.heap.get? b = some o → (h'.push fo).get? b = some o := fun b o hb e => Heap.get?_push_of_some _ (ext b o hb e)
    have sm : Same H H' := by
      refine ⟨fun b o i e => keepH b o (noP b o i.no e) (noc b o e) e, fun b t2 => ?_, fun b ps2 e => ?_⟩
      · obtain ⟨ps2, e2, tr2, k2⟩ := t2
        have codes : ∀ {cv : Value}, (∃ c o u vs t, cv = Value.ref c ∧ H c = some (.frz o u) ∧ o.data = .fields vs ∧ vs[1]? = some (.str (TN.nm b) t)) → ∃ c o u vs t, cv = Value.ref c ∧ H' c = some (.frz o u) ∧ o.data = .fields vs ∧ vs[1]? = some (.str (TN.nm b) t) := by
          rintro cv ⟨c3, o3, u3, vs3, t3, w1, w2, w3⟩
          exact ⟨c3, o3, u3, vs3, t3, w1, keepH c3 _ (noP c3 _ (fun _ z => by cases z) w2) (noc c3 _ w2) w2, w3⟩
        by_cases hb : b = P
        · subst hb
          have ep2 : ps2 = ps := by rw [eP] at e2; exact (HO.tbl.inj (Option.some.inj e2)).symm
          subst ep2
          have el : (ps2 ++ #[rawInt lpos.line, rawInt lpos.col, .ref c']).toList = ps2.toList ++ [rawInt lpos.line, rawInt lpos.col, .ref c'] := by simp
          refine ⟨_, eP', by rw [el]; exact TriplesOk_snoc _ _ _ _ tr2, fun pos cv z => ?_⟩
          rw [el] at z
          rcases among_snoc _ tr2 z with z | z
          · exact codes (k2 pos cv z)
          · exact ⟨c', oc, _, vs, t, z, ec', hdc, hv⟩
        · exact ⟨ps2, keepH b _ hb (noc b _ e2) e2, tr2, fun pos cv z => codes (k2 pos cv z)⟩
      · by_cases hb : b = P
        · subst hb; exact ⟨_, eP'⟩
        · exact ⟨ps2, keepH b _ hb (noc b _ e) e⟩
    have un : Un X.fs [] H H' s.heap (h'.push fo) := by
      have ltb : ∀ {b : Addr} {o : Obj}, s.heap.get? b = some o → b ≠ c' := fun {b o} e z => absurd (Heap.lt_size e) (by rw [z]; exact Nat.not_lt.mpr hge)
      have npb : ∀ {b : Addr}, H b = none → b ≠ P := fun {b} n z => by rw [z, eP] at n; cases n
      refine ⟨fun b o e n _ _ => old b o (npb n) e, fun b o e n _ _ => ⟨o.slots, old b o (npb n) e⟩, fun b o e n _ => ?_, fun b o e _ => ?_, fun b xs e => sm _ _ e, fun b o u e => sm _ _ e, fun b ps2 e => ?_⟩
      · show upd _ _ _ b = none
        rw [upd_ne (npb n), upd_ne (ltb e)]
        exact n
      · by_cases hb : b = P
        · subst hb; exact ⟨_, Heap.get?_push_of_some _ htab⟩
        · exact ⟨o, old b o hb e⟩
      · by_cases hb : b = P
        · subst hb
          have ep2 : ps2 = ps := by rw [eP] at e; exact (HO.tbl.inj (Option.some.inj e)).symm
          subst ep2
          exact ⟨_, eP'⟩
        · exact ⟨#[], by rw [keepH b _ hb (noc b _ e) e]; simp⟩
    have hok' : HOk X.prog X.w H' (h'.push fo) := fun b u e => by
      by_cases hb : b = P
      · subst hb
        rw [eP'] at e
        cases e
        exact Heap.get?_push_of_some _ htab
      · by_cases hb2 : b = c'
        · subst hb2
          rw [ec'] at e
          cases e
          exact ⟨Heap.get?_push_of_some _ hoc, trivial, ⟨oc, Heap.get?_push_of_some _ hoc⟩, fun _ _ _ _ => trivial⟩
        · have e0 : H b = some u := by
            have e' : upd _ _ _ b = some u := e
            rw [upd_ne hb, upd_ne hb2] at e'
            exact e'
          refine (I.hok b u e0).stay (fun c v hc w => ?_) (fun c w => ?_) fun c xs w => sm _ _ w
          · refine old c v ?_ w
            rcases hc with rfl | hc
            · exact hb
            · exact fun z => by rw [z, eP] at hc; cases hc
          · exact keepH c _ (noP c _ (fun _ z => by cases z) w) (noc c _ w) w
    have I1 : Inv X pins σ H' { s with heap := h'.push fo, toks := tk } := I.un un hok'
    have hf0 : H' h'.objs.size = none := by
      show upd _ _ _ h'.objs.size = none
      rw [upd_ne (fun z => absurd (Heap.lt_size hP) (by rw [← z]; exact Nat.not_lt.mpr hsz)), upd_ne (Nat.ne_of_gt hlt)]
      exact I.hok.fresh hsz
    refine h h'.objs.size H' fo _ sm (Inv.pin1 I1 (Heap.get?_push_size _ (by rw [← hfo]; rfl)) hf0 ?_ (I.nofs hsz) hnc) ⟨_, c', ctv, by rw [hfo]; exact List.mem_cons_self, oc, _, vs, t, ec', hdc, hv⟩
    exact fun z => absurd (Nat.lt_of_lt_of_le I.lt hsz) (by rw [z]; exact Nat.lt_irrefl _)
end
end ST
set_option Elab.async false
set_option linter.all false
set_option maxRecDepth 100000
set_option maxHeartbeats 4000000
namespace ST
variable [TN]
open PySem PySem.Spec PyProof.Rows L2
noncomputable abbrev lamEnv (q : Str) (scope : Scope) (cl : List (Str × Addr)) (L f : Addr) (cv : Value) : Env :=
  { scope := scope, locals := L, globals := mainGlobals, cells := cl, qual := q ++ ".<locals>.", func := some f, code := cv, frame := some L, builtins := builtinsNs }
noncomputable def cxL (X : Cx) (scope : Scope) (cl : List (Str × Addr)) (x : Str) (A : Around) (env : Env) (s₀ : Shared) (H₀ : Hp) : Cx :=
  { X with A := A.deeper env, N := x :: X.N, s₀ := s₀, H₀ := H₀, env := env, outer := X.stack, stack := env :: X.stack, ex := [], fn := fun _ => false, calm := true, pn := [], xe := fun _ _ => False }
structure CloL (X : Cx) (scope : Scope) (x : Str) (cl : List (Str × Addr)) : Prop where
  clos : closureFor scope X.env = pure cl
  sub : ∀ y c, cl.lookup y = some c → X.env.cells.lookup y = some c
  free : ∀ y, scope.names.lookup y = some .free → ∃ c, cl.lookup y = some c
  out : ∀ y, scope.names.lookup y = some .free → X.env.kindOf y = some .cell
  cell : ∀ y ∈ scope.names, y.2 ≠ .cell
  kind : scope.kind = .function
  loc : scope.names.lookup x = some .local
structure CloLS (X : Cx) (scope : Scope) (x : Str) (hs : List Nat) : Prop where
  out : ∀ p ∈ scope.names, p.2 = .free → X.env.scope.names.lookup p.1 = some .cell
  cell : ∀ y ∈ scope.names, y.2 ≠ .cell
  kind : scope.kind = .function
  loc : scope.names.lookup x = some .local
  hid : ∀ (j : Nat) (y : Str), X.N[j]? = some y → scope.names.lookup y = some .local → hs.contains j = true
noncomputable def cloLOk (scope : Scope) (names : List (Str × NameKind)) (N : List Str) (x : Str) (hs : List Nat) : Bool :=
  scope.names.all (fun p => !decide (p.2 = .free) || decide (names.lookup p.1 = some .cell)) && scope.names.all (fun p => !decide (p.2 = .cell)) && decide (scope.kind = .function) && decide (scope.names.lookup x = some .local) &&
  (List.range N.length).all (fun j => !decide (scope.names.lookup (N.getD j "") = some .local) || hs.contains j)
theorem cloLS_of {X : Cx} {scope : Scope} {x : Str} {hs : List Nat} (names : List (Str × NameKind)) (N : List Str) (h1 : X.env.scope.names = names) (h2 : X.N = N) (ok : cloLOk scope names N x hs = true) : CloLS X scope x hs := by
  subst h1 h2
  unfold cloLOk at ok
  simp only [Bool.and_eq_true, List.all_eq_true, Bool.or_eq_true, Bool.not_eq_true', decide_eq_true_eq, decide_eq_false_iff_not] at ok
  obtain ⟨⟨⟨⟨o1, o2⟩, o3⟩, o4⟩, o5⟩ := ok
  refine ⟨fun p hp hk => (o1 p hp).resolve_left fun z => z hk, o2, o3, o4, fun j y hj hl => ?_⟩
  have hlt : j < X.N.length := (List.getElem?_eq_some_iff.mp hj).1
  have ey : X.N.getD j "" = y := by rw [List.getD_eq_getElem?_getD, hj]; rfl
  rcases o5 j (List.mem_range.mpr hlt) with z | z
  · rw [ey] at z; exact absurd hl z
  · exact z
theorem CloLS.clo {X : Cx} {scope : Scope} {x : Str} {hs : List Nat} {pins : List (Addr × Obj)} {σ : L2.St} {H : Hp} {s : Shared} (CS : CloLS X scope x hs) (I : Inv X pins σ H s) : CloL X scope x (closL X.env.cells scope.names []) where
  clos := closureFor_eq fun p hp hk => I.ok.has p.1 (.inl (CS.out p hp hk))
  sub := fun y c h => closL_sub scope.names [] (fun p hp hk => I.ok.has p.1 (.inl (CS.out p hp hk))) (fun z d hz => by simp at hz) h
  free := fun y h => closL_has scope.names [] h
  out := fun y h => CS.out (y, .free) (PySem.mem_of_lookup h) rfl
  cell := CS.cell
  kind := CS.kind
  loc := CS.loc
noncomputable def hid (hs : List Nat) : Nat → L2.St → L2.St
  | _, [] => []
  | i, v :: t => (if hs.contains i = true then none else v) :: hid hs (i + 1) t
theorem hid_len (hs : List Nat) : ∀ (i : Nat) (σ : L2.St), (hid hs i σ).length = σ.length
  | _, [] => rfl
  | i, v :: t => by show (hid hs (i + 1) t).length + 1 = t.length + 1; rw [hid_len hs (i + 1) t]
theorem hid_get (hs : List Nat) : ∀ (i : Nat) (σ : L2.St) {j : Nat} {w : V}, (hid hs i σ)[j]? = some (some w) → hs.contains (i + j) = false ∧ σ[j]? = some (some w)
  | _, [], j, w, h => by simp [hid] at h
  | i, v :: t, 0, w, h => by
    have h' : (if hs.contains i = true then none else v) = some w := by simpa [hid] using h
    by_cases c : hs.contains i = true
    · rw [if_pos c] at h'; cases h'
    · rw [if_neg c] at h'
      exact ⟨by simpa using c, by rw [h']; rfl⟩
  | i, v :: t, j + 1, w, h => by
    have h' : (hid hs (i + 1) t)[j]? = some (some w) := by simpa [hid] using h
    have z := hid_get hs (i + 1) t h'
    exact ⟨by rw [← z.1]; congr 1; omega, by simpa using z.2⟩
theorem CloL.visL {X : Cx} {scope : Scope} {x : Str} {cl : List (Str × Addr)} (CL : CloL X scope x cl) {y : Str} (h : Vis scope y) : scope.names.lookup y = some .local ∨ scope.names.lookup y = some .free := by
  rcases h with h | h | h
  · exact .inl h
  · exact absurd rfl (CL.cell (y, .cell) (PySem.mem_of_lookup h))
  · exact .inr h
section
variable {X : Cx} {pins : List (Addr × Obj)} {σ : L2.St} {H : Hp} {s : Shared} {scope : Scope} {x : Str} {cl : List (Str × Addr)} {params : Arguments} {body : Expr} {q : Str} {f : Addr} {tb : TE}
theorem lam_call {A : Around} {v : V} {u : Value} {Q : VK} {E : Value → Shared → Prop} {k : Nat} (I : Inv X pins σ H s) (LA : LamAt H pins q params body scope cl f) (CL : CloL X scope x cl) {hs : List Nat} (hhid : ∀ (j : Nat) (y : Str), X.N[j]? = some y → scope.names.lookup y = some .local → hs.contains j = true) (hA : A.frames = some X.stack) (hr : Room (k + 1) A)
    (hco : scope.isCoroutine = false) (hgen : scope.isGenerator = false) (hb : ∀ pm cv ctv, bindArgs (PySem.W.kla_fn "<lambda>" q params body scope cl pm cv ctv) ⟨[u], []⟩ = pure [(x, u)])
    (hbody : ∀ (A' : Around) (L' f' : Addr) (cv' : Value) (s₀ : Shared) (H₀ : Hp), Room k (A'.deeper (lamEnv q scope cl L' f' cv')) → PE (cxL X scope cl x A' (lamEnv q scope cl L' f' cv') s₀ H₀) body tb) (rv : RelV v u) (h : tb (some v :: hid hs 0 σ) H Q) :
    wpAny (model X.prog X.w) A (call (.ref f) [u]) (EP X pins σ Q) E s := by
  obtain ⟨pm, c, ctv, hm, o, uo, vs, t, ec, ed, ev⟩ := LA.pin
  obtain ⟨hf, _⟩ := I.pin _ (List.mem_append_right _ hm)
  have hoc : s.heap.get? c = some o := (I.hok c _ ec).1
  have crec : s.heap.CodeRec (.ref c) q := ⟨c, o, vs, t, rfl, hoc, ed, ev⟩
  refine wpAny_call (codeAny_mono (R := CR CX0 X.stack X.prog X.w H s Q (fun _ _ _ => False)) ?_ fun r s' hq => ?_)
  rotate_left
  · cases r with
    | error e => exact (show False from hq).elim
    | ok fl =>
      cases fl with
      | ret u => exact I.after hq
      | next => exact False.elim hq
      | brk => exact False.elim hq
      | cont => exact False.elim hq
  refine PySem.W.kla_callFunE hr.depth hf rfl hco hgen rfl crec ?_
  show wpAny (model X.prog X.w) A.in1 (bindArgs (PySem.W.kla_fn "<lambda>" q params body scope cl pm (.ref c) ctv) ⟨[u], []⟩) _ _ s
  rw [hb]
  refine wpAny_pure ?_
  refine wpAny_newFunctionEnv (around := none) CL.cell (fun y hy => ?_) (fun h1 hns hsb => ?_) CL.kind
  · have e : y = (x, u) := by simpa using hy
    subst e
    exact CL.loc
  have hk1 : ∀ b o, s.heap.get? b = some o → h1.get? b = some o := fun b o e => hsb.extBut b o (Nat.ne_of_lt (Heap.lt_size e)) (Heap.get?_push_of_some _ e)
  have lim : s.heap.NoLimit := I.nolimit
  refine ⟨lim.keeps hk1, ?_⟩
  show codeAny (model X.prog X.w) A (.expr body (lamEnv q scope cl s.heap.objs.size f (.ref c))) _ _
  generalize henv : lamEnv q scope cl s.heap.objs.size f (.ref c) = env
  have e1 : env.scope = scope := by rw [← henv]
  have e2 : env.locals = s.heap.objs.size := by rw [← henv]
  have e3 : env.cells = cl := by rw [← henv]
  have noA : ∀ b : Addr, b ∉ (cxL X scope cl x A env s H).ex := fun b z => absurd (show b ∈ ([] : List Addr) from z) (by simp)
  have IL : Inv (cxL X scope cl x A env s H) [] (some v :: hid hs 0 σ) H { s with heap := h1, toks := s.toks + [(x, u)].length } := by
    refine ⟨⟨I.ok.mod, by show env.scope.kind = _; rw [e1]; exact CL.kind, by show env.globals = _; rw [← henv], by show env.builtins = _; rw [← henv], by show s.heap.objs.size ≤ env.locals; rw [e2]; exact Nat.le_refl _, fun y z c h1 h2 => ?_, fun y hy => ?_, fun y c hf _ => absurd (show false = true from hf) Bool.false_ne_true, fun _ => hr.hd, Around.frames_deeper hA, .inr ⟨rfl, by show env.frame = some env.locals; rw [← henv]⟩, fun b z => absurd z (noA b), I.bs, Nat.le_trans I.ok.bsz I.sz, fun b _ _ => noA b, fun b z => absurd z (noA b), I.stack, I.stkFree⟩,
      rfl, I.bare, Un.kept hk1, ⟨_, by show h1.Ns env.locals _; rw [e2]; exact hns, fun i y w h1' h2' h3' => ?_⟩, fun y c hc => ?_, by show H env.locals = none; rw [e2]; exact I.hok.fresh (Nat.le_refl _), fun y c hc => ?_, fun p hp => absurd (show p ∈ ([] : List (Addr × Obj)) from hp) (by simp), I.hok.kept hk1, ?_⟩
    · have h1' : cl.lookup y = some c := by rw [← e3]; exact h1
      have h2' : cl.lookup z = some c := by rw [← e3]; exact h2
      exact I.ok.inj y z c (CL.sub y c h1') (CL.sub z c h2')
    · have hy' : scope.names.lookup y = some .cell ∨ scope.names.lookup y = some .free := by rw [← e1]; exact hy
      rcases hy' with z | z
      · exact absurd rfl (CL.cell (y, .cell) (PySem.mem_of_lookup z))
      · show ∃ c, env.cells.lookup y = some c
        rw [e3]
        exact CL.free y z
    · have h3 : Vis scope y := by rw [← e1]; exact h3'
      cases i with
      | zero =>
        have ey : x = y := by simpa [cxL] using h1'
        have ew : v = w := by simpa using h2'
        subst ey ew
        refine ⟨u, rv, .inl ⟨?_, ?_⟩⟩
        · show env.scope.names.lookup x = some .local
          rw [e1]
          exact CL.loc
        · simp
      | succ j =>
        have q1 : X.N[j]? = some y := by simpa [cxL] using h1'
        have q2' : (hid hs 0 σ)[j]? = some (some w) := by simpa using h2'
        obtain ⟨nh, q2⟩ := hid_get hs 0 σ q2'
        rw [Nat.zero_add] at nh
        rcases CL.visL h3 with z | z
        · rw [hhid j y q1 z] at nh; cases nh
        · obtain ⟨m, hn, hl⟩ := I.loc
          obtain ⟨u', r, l⟩ := hl j y w q1 q2 (.inr (.inl (CL.out y z)))
          obtain ⟨c', hc'⟩ := CL.free y z
          refine ⟨u', r, .inr ⟨.inr ?_, c', ?_, ?_⟩⟩
          · show env.scope.names.lookup y = some .free
            rw [e1]; exact z
          · show env.cells.lookup y = some c'
            rw [e3]; exact hc'
          · rcases l with ⟨k2, _⟩ | ⟨_, c3, hc3, ob, ho, hd⟩
            · exact absurd (k2.symm.trans (CL.out y z)) (by decide)
            · have e : some c' = some c3 := (CL.sub y c' hc').symm.trans hc3
              cases e
              exact ⟨ob, hk1 _ ob ho, hd⟩
    · have hc' : cl.lookup y = some c := by rw [← e3]; exact hc
      obtain ⟨w, ob, ho, hd⟩ := I.cell y c (CL.sub y c hc')
      exact ⟨w, ob, hk1 _ ob ho, hd⟩
    · have hc' : cl.lookup y = some c := by rw [← e3]; exact hc
      exact I.freeC y c (CL.sub y c hc')
    · show (some v :: hid hs 0 σ).length = (x :: X.N).length
      rw [List.length_cons, List.length_cons, hid_len, I.len]
  subst henv
  refine PySem.W.kla_codeExpr (wpAny_mono (hbody A _ _ _ s H (hr.deeper _) [] _ (some v :: hid hs 0 σ) H Q IL h) (fun w s' z => ?_) fun e s' z => (show False from z).elim)
  obtain ⟨v', H', J, r', q'⟩ := z
  exact ⟨v', H', J.os, J.bare, J.base, J.hok, r', q'⟩
end
end ST
set_option Elab.async false
set_option linter.all false
set_option maxRecDepth 100000
set_option maxHeartbeats 4000000
namespace ST
variable [TN]
open PySem PySem.Spec PyProof.Rows L2
theorem Inv.sub {X : Cx} {pins pins' : List (Addr × Obj)} {σ : L2.St} {H : Hp} {s : Shared} (I : Inv X pins σ H s) (h : ∀ p ∈ pins', p ∈ pins) : Inv X pins' σ H s := I.pins_of fun p hp => I.pin p (List.mem_append_right _ (h p hp))
theorem FpOk.at' {X : Cx} {pins : List (Addr × Obj)} {H H' : Hp} {b : Addr} (h : FpOk X pins H b) (hn : H' b = none) : FpOk X pins H' b := ⟨hn, h.2⟩
section
variable {X : Cx} {pins : List (Addr × Obj)} {σ : L2.St} {H1 : Hp} {A : Around} {a it S f : Addr} {ep : Nat} {xs : List (Qn × Addr × V)} {R : Result → Shared → Prop}
theorem max_loop (hh : A.handled = none)
    (turn : ∀ (pins' : List (Addr × Obj)) (i : Nat) (e : Qn × Addr × V) (H : Hp) (s : Shared), xs[i]? = some e → Same H1 H → Inv X pins' σ H s → (∀ p ∈ pins, p ∈ pins') → wpAny (model X.prog X.w) A.in1 (call (.ref f) [.ref e.2.1]) (EP X pins' σ fun r H' => ∃ n, r = .int n ∧ Same H H') (fun _ _ => False) s)
    (hR : ∀ (i : Nat) (e : Qn × Addr × V) (H : Hp) (s : Shared), xs[i]? = some e → Same H1 H → Inv X pins σ H s → R (.ok (.ret (.ref e.2.1))) s) (h1a : H1 a = some (dQ X.prog X.w a ep xs)) (h1S : H1 S = none) :
    ∀ (r i : Nat) (H : Hp) (s : Shared) (bv : List V), xs.length - i = r → i ≤ xs.length → Inv X pins σ H s → FpOk X pins H it → s.heap.IsKeyIter it a i xs.length ep → H S = some (.lst bv) →
      ((i = 0 ∧ bv = [] ∧ 0 < xs.length) ∨ ∃ (j : Nat) (e : Qn × Addr × V) (m : Int), xs[j]? = some e ∧ bv = [.ref e.2.1, .int m]) → Same H1 H → codeAny (model X.prog X.w) A (.builtin "max.loop" ⟨[.ref it, .ref f, .ref S], []⟩) R s := by
  have hname : (toString "max" ++ toString ".loop" : String) = "max.loop" := by decide
  intro r
  induction r with
  | zero =>
    intro i H s bv hr hi I fp hit hS hb sm
    have hin : xs.length ≤ i := by omega
    obtain ⟨h1, h2, h3, vs, rq, o, es, e1, e2, e3, e4⟩ := QD.raw I.hok (sm _ _ h1a)
    have hl : es.size = xs.length := by rw [size_of_entries e4]; exact (Paired.length rq).symm
    have hit' : s.heap.IsKeyIter it a i es.size ep := by rw [hl]; exact hit
    rcases hb with ⟨hi0, _, hpos⟩ | ⟨j, e, m, hj, rfl⟩
    · omega
    obtain ⟨hz, its, nS, rS, hlS, eS⟩ := I.lstM hS
    obtain ⟨u1, u2, rfl, ru1, ru2⟩ := rS.two
    cases ru1
    obtain ⟨t2, rfl⟩ := ru2
    obtain ⟨f0, f1, f2, f3, f4, f5⟩ := id fp
    refine codeAny_builtin PySem.F.entry_max_loop ?_
    rw [Around.under_plainId PySem.F.plain_max_loop _]
    show wpAny _ A.in1 (seqItems? (.ref S) >>= _) _ _ _
    refine wpAny_bind (wpAny_seqItems eS rfl ?_)
    show wpAny _ A.in1 (tryCatch (pyNext (.ref it)) _ >>= _) _ _ _
    refine wpAny_bind (wpAny_tryCatch (next_end (show A.in1.handled = none from hh) hit' e1 e3 (by omega) fun h' eb => ?_))
    have I1 : Inv X pins σ H { s with heap := h' } := I.turned (t' := s.toks) (fun b o hb e => eb b o hb e) f0 f1 f3 f4 f5
    have hSi : S ≠ it := fun z => by rw [z, f0] at hS; cases hS
    have eS' := eb S _ hSi eS
    show wpAny _ A.in1 (updateSeq S (fun _ => #[]) >>= _) _ _ _
    refine wpAny_bind ?_
    refine wpAny_updateSeq eS' rfl (wpAny_bind (wpAny_letGo (wpAny_pure ?_))) (by show 2 ≤ sizeLine; decide) (Nat.zero_le _)
    have I2 := I1.lset (t' := s.toks) (ys := []) (its' := []) (f := fun _ => #[]) hS eS' rfl .nil (Nat.zero_le _)
    exact hR j e _ _ hj (sm.upd h1S _ (notf hS)) I2
  | succ r ih =>
    intro i H s bv hr hi I fp hit hS hb sm
    have hlt : i < xs.length := by omega
    obtain ⟨h1, h2, h3, vs, rq, o, es, e1, e2, e3, e4⟩ := QD.raw I.hok (sm _ _ h1a)
    have hl : es.size = xs.length := by rw [size_of_entries e4]; exact (Paired.length rq).symm
    have hit' : s.heap.IsKeyIter it a i es.size ep := by rw [hl]; exact hit
    obtain ⟨x, hx⟩ : ∃ x, xs[i]? = some x := ⟨_, List.getElem?_eq_getElem hlt⟩
    obtain ⟨en, hen, hkey⟩ := es_at rq e4 hx
    obtain ⟨hz, its, nS, rS, hlS, eS⟩ := I.lstM hS
    obtain ⟨f0, f1, f2, f3, f4, f5⟩ := id fp
    have hSi : S ≠ it := fun z => by rw [z, f0] at hS; cases hS
    refine codeAny_builtin PySem.F.entry_max_loop ?_
    rw [Around.under_plainId PySem.F.plain_max_loop _]
    show wpAny _ A.in1 (seqItems? (.ref S) >>= _) _ _ _
    refine wpAny_bind (wpAny_seqItems eS rfl ?_)
    show wpAny _ A.in1 (tryCatch (pyNext (.ref it)) _ >>= _) _ _ _
    refine wpAny_bind (wpAny_tryCatch (next_item hit' e1 e3 hen fun h' st2 sb => ?_))
    rw [hkey]
    rw [hl] at st2
    have I1 : Inv X pins σ H { s with heap := h' } := I.turned (t' := s.toks) (fun b o hb e => (sb.2 b hb).trans e) f0 f1 f3 f4 f5
    obtain ⟨oi, q1, q2, q3⟩ := id st2
    have I2 : Inv X ((it, oi) :: pins) σ H { s with heap := h' } := Inv.pin1 I1 q1 f0 f1 f2 (fun v z => by rw [q3] at z; cases z)
    show wpAny _ A.in1 (tryCatch (holding [Value.ref x.2.1] (call (.ref f) [Value.ref x.2.1])) _ >>= _) _ _ _
    refine wpAny_bind (wpAny_tryCatch (wpAny_holding (wpAny_mono (turn _ i x H _ hx sm I2 fun p hp => List.mem_cons_of_mem _ hp) (fun w s2 he => ?_) fun _ _ hF => hF.elim)))
    obtain ⟨v2, H2, I3, r3, n, rfl, sm2⟩ := he
    obtain ⟨t3, rfl⟩ := r3
    have hit2 : s2.heap.IsKeyIter it a (i + 1) xs.length ep := ⟨oi, (I3.pin (it, oi) (List.mem_append_right _ List.mem_cons_self)).1, q2, q3⟩
    have fit0 : H2 it = none := (I3.pin (it, oi) (List.mem_append_right _ List.mem_cons_self)).2.1
    have I4 : Inv X pins σ H2 s2 := Inv.sub I3 fun p hp => List.mem_cons_of_mem _ hp
    have hS2 := sm2 _ _ hS
    obtain ⟨hz2, its2, nS2, rS2, hlS2, eS2⟩ := I4.lstM hS2
    have smA := sm.trans sm2
    have setB : ∀ {its3 : List Value} {k3 : Nat} (eS3 : s2.heap.get? S = some { cls := .type "list", data := .seq its3.toArray k3 }), codeAny (model X.prog X.w) A (.builtin "max.loop" ⟨[.ref it, .ref f, .ref S], []⟩) R { s2 with heap := s2.heap.update S (Obj.mapSeq fun _ => #[.ref x.2.1, .int n t3]) } := fun {its3 k3} eS3 => by
      have I5 := I4.lset (t' := s2.toks) (ys := [.ref x.2.1, .int n]) (its' := [.ref x.2.1, .int n t3]) (f := fun _ => #[.ref x.2.1, .int n t3]) hS2 eS3 rfl (.cons rfl (.cons ⟨t3, rfl⟩ .nil)) (by show 2 ≤ sizeLine; decide)
      have hSit : S ≠ it := hSi
      have fit5 : upd H2 S (.lst [.ref x.2.1, .int n]) it = none := by rw [upd_ne (Ne.symm hSit)]; exact fit0
      refine ih (i + 1) _ _ _ (by omega) (by omega) I5 (FpOk.at' fp fit5) ?_ upd_same (.inr ⟨i, x, n, hx, rfl⟩) (smA.upd h1S _ (notf hS2))
      obtain ⟨oi2, w1, w2, w3⟩ := hit2
      exact ⟨oi2, (Heap.get?_update_other s2.heap _ (Ne.symm (Ne.symm hSit))).trans w1, w2, w3⟩
    rcases hb with ⟨hi0, rfl, hpos⟩ | ⟨j, e, m, hj, rfl⟩
    · cases rS
      show wpAny _ A.in1 (updateSeq S (fun _ => #[.ref x.2.1, .int n t3]) >>= _) _ _ _
      refine wpAny_bind ?_
      refine wpAny_updateSeq eS2 rfl ?_ (by rw [List.size_toArray, ← hlS2]; exact hz2) (by show 2 ≤ sizeLine + 1; decide)
      rw [hname]
      exact wpAny_pure ⟨plainId_quiet PySem.F.plain_max_loop _, setB eS2⟩
    · obtain ⟨u1, u2, rfl, ru1, ru2⟩ := rS.two
      cases ru1
      obtain ⟨t2, rfl⟩ := ru2
      show wpAny _ A.in1 (tryCatch (holding [Value.ref x.2.1, .int n t3] (richCompare .Gt (.int n t3) (.int m t2) >>= _)) _ >>= _) _ _ _
      refine wpAny_bind (wpAny_tryCatch (wpAny_holding (wpAny_bind (show wpAny (model X.prog X.w) A.in1 (compareOp .Gt (.int n t3) (.int m t2)) _ _ s2 from PyProof.Rows.gt_int ?_))))
      refine wpAny_bind (wpAny_holding (wpAny_truthy_bool ?_))
      refine wpAny_bind (wpAny_letGo (wpAny_pure ?_))
      by_cases hb' : n > m
      · simp only [hb', decide_true, if_true]
        refine wpAny_bind ?_
        refine wpAny_updateSeq eS2 rfl (wpAny_bind (wpAny_letGo ?_)) (by rw [List.size_toArray, ← hlS2]; exact hz2) (by show 2 ≤ sizeLine + 1; decide)
        rw [hname]
        exact wpAny_pure ⟨plainId_quiet PySem.F.plain_max_loop _, setB eS2⟩
      · simp only [hb', decide_false, Bool.false_eq_true, if_false]
        refine wpAny_bind (wpAny_letGo ?_)
        rw [hname]
        exact wpAny_pure ⟨plainId_quiet PySem.F.plain_max_loop _, ih (i + 1) H2 s2 _ (by omega) (by omega) I4 (FpOk.at' fp fit0) hit2 hS2 (.inr ⟨j, e, m, hj, rfl⟩) smA⟩
end
end ST
set_option Elab.async false
set_option linter.all false
set_option maxRecDepth 100000
set_option maxHeartbeats 4000000
namespace ST
variable [TN]
open PySem PySem.Spec PyProof.Rows L2
noncomputable def tMaxQ (P : Program) (w : World) (T : Addr) (hs : List Nat) (te tb : TE) : TE := fun σ H Q => te σ H fun x H1 => ∃ a ep xs, x = .ref a ∧ H1 a = some (dQ P w a ep xs) ∧ TabQ H1 T (TN.nm T) ∧ 0 < xs.length ∧
  (∀ (i : Nat) (e : Qn × Addr × V) (H' : Hp), xs[i]? = some e → Same H1 H' → tb (some (.ref e.2.1) :: hid hs 0 σ) H' fun r H'' => ∃ n, r = .int n ∧ Same H' H'') ∧
  ∀ (i : Nat) (e : Qn × Addr × V) (H' : Hp), xs[i]? = some e → Same H1 H' → Q (.ref e.2.1) H'
section
variable {X : Cx} {e : Expr} {te tb : TE} {params : Arguments} {body : Expr} {scope : Scope} {lpos p pos kpos : Pos} {x : Str} {hs : List Nat} {T : Addr} {k : Nat}
theorem pe_maxQ (hc : X.calm = true) (hr : Room (k + 2) X.A) (hg : Gl X "max") (hm : X.mg "max" = none) (he : PE X e te) (L : Lm X T) (hq : X.env.qual ++ "<lambda>" = TN.nm T) (CS : CloLS X scope x hs)
    (hbody : ∀ cl A' L' f' cv' s₀ H₀, Room k (A'.deeper (lamEnv (TN.nm T) scope cl L' f' cv')) → PE (cxL X scope cl x A' (lamEnv (TN.nm T) scope cl L' f' cv') s₀ H₀) body tb)
    (hb : ∀ u cl pm cv ctv, bindArgs (PySem.W.kla_fn "<lambda>" (TN.nm T) params body scope cl pm cv ctv) ⟨[u], []⟩ = pure [(x, u)] := by intro _ _ _ _ _; rfl)
    (hdef : defaultsOf params X.env = ([], []) := by rfl) (hco : scope.isCoroutine = false := by rfl) (hgen : scope.isGenerator = false := by rfl)
    (hs1 : backTo pos (starEach [e] X.env) = [(false, eval e X.env)] := by rfl) (hk1 : backToKw pos (keywordEach [⟨some "key", .Lambda params body scope lpos, kpos⟩] X.env) = [(some (Str.ofString "key"), do let v ← eval (.Lambda params body scope lpos) X.env; standAt pos; pure v)] := by rfl) :
    PE X (.Call (.Name "max" p) [e] [⟨some "key", .Lambda params body scope lpos, kpos⟩] pos) (tMaxQ X.prog X.w T hs te tb) := by
  intro pins s σ H Q I h
  refine wpAny_Call_Name_kw (ld_blt I hg hm (show bootBuiltins "max" = some (.builtin "max") by rfl) ?_)
  refine callWith_kw ?_ hs1 (by rw [hs1]; rfl) (by rw [hk1]; rfl) (by rw [hk1]; rfl)
  rw [hs1, hk1]
  refine Calls.spliced_cons (thn (he pins s σ H _ I h) fun u s1 ⟨v, H1, I1, r1, a, ep, xs, ev, e1, T1, hpos, hkey, hq2⟩ => Calls.spliced_nil ?_)
  subst ev
  cases r1
  have CL := CS.clo I1
  refine evalAll_cons (wpAny_bind (lam_make L CL.clos hq hdef I1 T1 fun f H2 fo s2 sm2 I2 LA => wpAny_bind (wpAny_standAt (wpAny_pure (evalAll_nil ?_)))))
  show wpAny _ _ (call (.builtin "max") [.ref a] [(Str.ofString "key", .ref f)]) _ _ s2
  have hh : X.A.handled = none := I.ok.hd hc
  have hname : (toString "max" ++ toString ".loop" : String) = "max.loop" := by decide
  have e2 := sm2 _ _ e1
  obtain ⟨h1, h2, h3, vs, rq, o, es, d1, d2, d3, d4⟩ := QD.raw I2.hok e2
  have hl : es.size = xs.length := by rw [size_of_entries d4]; exact (Paired.length rq).symm
  refine kmk_tree PySem.F.kind_max PySem.F.plain_max PySem.F.entry_max (kmk_max_key _ _) ?_
  show wpAny _ X.A.in1 (Builtin.Builtins.bindParams "max" ["key", "default"] 0 ⟨[], [(Str.ofString "key", .ref f)]⟩ >>= _) _ _ s2
  refine wpAny_bind (wpAny_of_eq (show Builtin.Builtins.bindParams "max" ["key", "default"] 0 ⟨[], [(Str.ofString "key", .ref f)]⟩ = pure [some (.ref f), none] from rfl) ?_)
  refine wpAny_bind (wpAny_pure (wpAny_bind (iter_dict h2 d1 d2 d3 (wpAny_bind (wpAny_newList ?_ (Nat.zero_le _))))))
  rw [hname]
  refine wpAny_pure ⟨plainId_quiet PySem.F.plain_max_loop _, ?_⟩
  generalize hio : ({ cls := .type "dict_keyiterator", data := .fields #[.ref a, .int 0 0, .int es.size 0, .int ep 0] } : Obj) = io
  have I3 : Inv X ((f, fo) :: pins) σ H2 { s2 with heap := s2.heap.push io } := I2.kept fun b ob q => Heap.get?_push_of_some _ q
  have I4 := I3.lnew (t' := s2.toks) (ys := []) (its := []) .nil (Nat.zero_le _)
  have gI : ((s2.heap.push io).push { cls := .type "list", data := .seq #[] }).get? s2.heap.objs.size = some io := Heap.get?_push_of_some _ (Heap.get?_push_size _ (by rw [← hio]; rfl))
  have hS1 : (s2.heap.push io).objs.size = s2.heap.objs.size + 1 := size_push' ..
  have fS : H2 (s2.heap.push io).objs.size = none := I2.hok.fresh (by rw [hS1]; exact Nat.le_succ _)
  have fI : H2 s2.heap.objs.size = none := I2.hok.fresh (Nat.le_refl _)
  have sm3 := same_new fS (.lst [])
  refine max_loop (H1 := H2) (it := s2.heap.objs.size) (S := (s2.heap.push io).objs.size) (pins := (f, fo) :: pins) hh (fun pins' i en H' s' hx sm' I' hsub => ?_) (fun i en H' s' hx sm' I' => ?_) e2 fS xs.length 0 _ _ [] (Nat.sub_zero _) (Nat.zero_le _) I4 ?_ ⟨io, gI, by rw [← hio], by rw [← hio, hl]; rfl⟩ upd_same (.inl ⟨rfl, rfl, hpos⟩) sm3
  · have LA' : LamAt H' pins' (TN.nm T) params body scope (closL X.env.cells scope.names []) f := by
      have z := LA.mono sm'
      obtain ⟨pm, c, ctv, m, r⟩ := z.pin
      exact ⟨pm, c, ctv, hsub _ m, r⟩
    exact lam_call (E := fun _ _ => False) (v := .ref en.2.1) I' LA' CL CS.hid (show X.A.in1.frames = some X.stack from I.ok.frames) hr.in1 hco hgen (fun pm cv ctv => hb _ _ pm cv ctv) (fun A' L' f' cv' s₀ H₀ => hbody _ A' L' f' cv' s₀ H₀) rfl (hkey i en H' hx (sm2.trans sm'))
  · exact ⟨.ref en.2.1, H', Inv.sub I' fun p hp => List.mem_cons_of_mem _ hp, rfl, hq2 i en H' hx (sm2.trans sm')⟩
  · exact I2.fpOk (Nat.le_refl _) (by rw [upd_ne (by rw [hS1]; exact Nat.ne_of_lt (Nat.lt_succ_self _))]; exact fI)
end
end ST
set_option Elab.async false
set_option linter.all false
set_option maxRecDepth 100000
set_option maxHeartbeats 4000000
namespace ST
variable [TN]
open PySem PySem.Spec PyProof.Rows L2
noncomputable abbrev RP : List (Int × V) → List (Int × Value) → Prop := Paired fun p q => p.1 = q.1 ∧ RelV p.2 q.2
theorem perm_pair {a b : List (Int × Value)} (h : a.Perm b) : ∀ {b' : List (Int × V)}, RP b' b → ∃ a', a'.Perm b' ∧ RP a' a := by
  induction h with
  | nil => intro b' r; cases r; exact ⟨[], .refl _, .nil⟩
  | cons x _ ih =>
    intro b' r
    cases r with
    | cons h t =>
      obtain ⟨a', p, r'⟩ := ih t
      exact ⟨_ :: a', p.cons _, .cons h r'⟩
  | swap x y l =>
    intro b' r
    cases r with
    | cons h t =>
      cases t with
      | cons h2 t => exact ⟨_ :: _ :: _, .swap _ _ _, .cons h2 (.cons h t)⟩
  | trans _ _ ih1 ih2 =>
    intro b' r
    obtain ⟨c', p, r'⟩ := ih2 r
    obtain ⟨a', p', r''⟩ := ih1 r'
    exact ⟨a', p'.trans p, r''⟩
theorem rp_zip : ∀ {kz : List Int} {ys : List V} {vs : List Value}, Vals ys vs → RP (kz.zip ys) (kz.zip vs)
  | [], _, _, _ => .nil
  | _ :: _, _, _, .nil => .nil
  | k :: kz, _, _, .cons h t => .cons ⟨rfl, h⟩ (rp_zip t)
theorem rp_vals {a : List (Int × V)} {b : List (Int × Value)} (r : RP a b) : Vals (a.map Prod.snd) (b.map Prod.snd) := by
  induction r with
  | nil => exact .nil
  | cons h _ ih => exact .cons h.2 ih
theorem rp_pw {f : Int → Int → Prop} {a : List (Int × V)} {b : List (Int × Value)} (r : RP a b) (h : b.Pairwise fun p q => f p.1 q.1) : a.Pairwise fun p q => f p.1 q.1 := by
  induction r with
  | nil => exact .nil
  | @cons p q ps qs h1 t ih =>
    rw [List.pairwise_cons] at h ⊢
    refine ⟨fun x hx => ?_, ih h.2⟩
    have key : ∀ {ps : List (Int × V)} {qs : List (Int × Value)}, RP ps qs → ∀ x ∈ ps, ∃ y ∈ qs, x.1 = y.1 := by
      intro ps qs r
      induction r with
      | nil => intro x hx; simp at hx
      | cons h2 t2 ih2 =>
        intro x hx
        rcases List.mem_cons.mp hx with z | z
        · subst z; exact ⟨_, List.mem_cons_self, h2.1⟩
        · obtain ⟨y, hy, e⟩ := ih2 x z; exact ⟨y, List.mem_cons_of_mem _ hy, e⟩
    obtain ⟨y, hy, e⟩ := key t x hx
    rw [h1.1, e]
    exact h.1 y hy
noncomputable def SortedV (b : Bool) (kz : List Int) (ys ys' : List V) : Prop := ∃ pz : List (Int × V), pz.Perm (kz.zip ys) ∧ ys' = pz.map Prod.snd ∧ pz.Pairwise (fun p q => if b then q.1 ≤ p.1 else p.1 ≤ q.1)
theorem Inv.adopt {X : Cx} {pins : List (Addr × Obj)} {σ : L2.St} {H : Hp} {s : Shared} {l : Addr} {o : HO} (I : Inv X pins σ H s) (fp : FpOk X pins H l) (ok : ObjOk X.prog X.w (upd H l o) s.heap l o) (hs : X.s₀.heap.objs.size ≤ l) : Inv X pins σ (upd H l o) s := by
  obtain ⟨f0, f1, f2, f3, f4, f5⟩ := fp
  have ne : ∀ b u, H b = some u → b ≠ l := fun b u e z => by rw [z, f0] at e; cases e
  have z := I.step (h' := s.heap) (H' := upd H l o) (g' := s.gens) (t' := s.toks) (d' := s.drawn) (ch := [l]) (fun b hb => ?_) (fun b o _ _ _ e _ => e) (fun b o _ _ _ e _ => ⟨o.slots, e⟩) (fun b o hc _ n => by rw [upd_ne (fun z => hc (by simp [z]))]; exact n) (fun b o _ e => ⟨o, e⟩)
    (fun b xs e => by rw [upd_ne (ne b _ e)]; exact e) (fun b o u e => by rw [upd_ne (ne b _ e)]; exact e) (fun b ps e => ⟨#[], by rw [upd_ne (ne b _ e), e]; simp⟩) (fun m hm => hm) (fun b u e => ?_) I.bare
  · exact z
  · have e : b = l := by simpa using hb
    subst e
    exact ⟨f3, f1, f4, f5⟩
  · by_cases hb : b = l
    · subst hb
      rw [upd_same] at e
      cases e
      exact ok
    · rw [upd_ne hb] at e
      exact (I.hok b u e).stay (fun c v _ w => w) (fun c w => by rw [upd_ne (ne c _ w)]; exact w) fun c xs w => by rw [upd_ne (ne c _ w)]; exact w
section
variable {X : Cx} {pins : List (Addr × Obj)} {σ : L2.St} {H1 : Hp} {A : Around} {l kS : Addr} {f : Value} {vs : List Value} {ys : List V} {kz : List Int} {b : Bool} {P : PySem.Fin → Shared → Prop} {E : Value → Shared → Prop} {e1 : Nat}
theorem sort_tail {st : SortSt} {keys : Array Value} {e : Nat} {H : Hp} {s : Shared} (I : Inv X pins σ H s) (fl : FpOk X pins H l) (fk : FpOk X pins H kS) (hls : X.s₀.heap.objs.size ≤ l) (hne : kS ≠ l) (hl : s.heap.get? l = some (seqObj "list" #[] e1)) (hk : s.heap.get? kS = some (seqObj "list" keys e))
    (hki : IntsAre keys.toList kz) (hlen : kz.length = vs.length) (h64 : vs.length < 64) (hp : (arrOf st).Perm (keys.zip vs.toArray)) (hs : SortedTo (arrOf st) (arrOf st).size) (hfl : failedOf st = none) (rv : Vals ys vs)
    (h : ∀ ys' s', SortedV b kz ys ys' → Inv X pins σ (upd H l (.lst ys')) s' → P (.done (.ret .none)) s') : wpAny (model X.prog X.w) A (ksk_tail l b e1 (.ref kS) st) P E s := by
  have hsz : keys.size = vs.length := by have h1 := hki.length; rw [Array.length_toList] at h1; omega
  have hsz2 : (arrOf st).size = vs.length := by rw [hp.size_eq, Array.size_zip, hsz, List.size_toArray, Nat.min_self]
  have hout : (if b then ((arrOf st).map (·.2)).reverse else (arrOf st).map (·.2)).size = vs.length := by
    cases b with
    | false => simp only [Bool.false_eq_true, if_false, Array.size_map]; exact hsz2
    | true => simp only [if_true, Array.size_reverse, Array.size_map]; exact hsz2
  have s1 := Heap.SameBut.update s.heap kS (Obj.mapSeq fun _ => (#[] : Array Value))
  have hl1 : (s.heap.update kS (Obj.mapSeq fun _ => (#[] : Array Value))).get? l = some (seqObj "list" #[] e1) := (s1.2 l (Ne.symm hne)).trans hl
  obtain ⟨k0, k1, k2, k3, k4, k5⟩ := id fk
  obtain ⟨l0, l1, l2, l3, l4, l5⟩ := id fl
  have I1 : Inv X pins σ H { s with heap := s.heap.update kS (Obj.mapSeq fun _ => (#[] : Array Value)) } := I.turned (t' := s.toks) (fun b o hb e => (s1.2 b hb).trans e) k0 k1 k3 k4 k5
  unfold ksk_tail
  try dsimp only
  refine wpAny_bind (listUpdate_at hk rfl ?_ (by rw [hsz, sizeLine_eq]; omega) (Nat.zero_le _))
  refine wpAny_bind (wpAny_letGo (wpAny_bind (seqEpoch_at hl1 rfl ?_)))
  refine wpAny_bind (listUpdate_at hl1 rfl ?_ (Nat.zero_le _) (Nat.le_trans (Nat.le_of_eq hout) (by rw [sizeLine_eq]; omega)))
  rw [hfl]
  simp only [bne_self_eq_false, Bool.false_eq_true, if_false]
  have s2 := Heap.SameBut.update (s.heap.update kS (Obj.mapSeq fun _ => (#[] : Array Value))) l (Obj.mapSeq fun _ => if b then ((arrOf st).map (·.2)).reverse else (arrOf st).map (·.2))
  have I2 : Inv X pins σ H { s with heap := (s.heap.update kS (Obj.mapSeq fun _ => (#[] : Array Value))).update l (Obj.mapSeq fun _ => if b then ((arrOf st).map (·.2)).reverse else (arrOf st).map (·.2)) } := I1.turned (t' := s.toks) (fun b o hb e => (s2.2 b hb).trans e) l0 l1 l3 l4 l5
  obtain ⟨ps, hp1, hp2, hp3⟩ := ksk_out (b := b) hki hp hs
  obtain ⟨pz, z1, z2⟩ := perm_pair hp1 (rp_zip (kz := kz) rv)
  have hv : Vals (pz.map Prod.snd) (if b then ((arrOf st).map (·.2)).reverse else (arrOf st).map (·.2)).toList := by rw [hp2]; exact rp_vals z2
  have hz3 : (pz.map Prod.snd).length ≤ sizeLine := by rw [hv.length, Array.length_toList, hout, sizeLine_eq]; omega
  obtain ⟨c2, q⟩ : ∃ c2, ((s.heap.update kS (Obj.mapSeq fun _ => (#[] : Array Value))).update l (Obj.mapSeq fun _ => if b then ((arrOf st).map (·.2)).reverse else (arrOf st).map (·.2))).get? l = some (seqObj "list" (if b then ((arrOf st).map (·.2)).reverse else (arrOf st).map (·.2)) c2) :=
    ⟨_, get?_update_seq hl1 fun _ => if b then ((arrOf st).map (·.2)).reverse else (arrOf st).map (·.2)⟩
  have ok : ObjOk X.prog X.w (upd H l (.lst (pz.map Prod.snd))) ((s.heap.update kS (Obj.mapSeq fun _ => (#[] : Array Value))).update l (Obj.mapSeq fun _ => if b then ((arrOf st).map (·.2)).reverse else (arrOf st).map (·.2))) l (.lst (pz.map Prod.snd)) :=
    ⟨hz3, _, c2, hv, by rw [q]⟩
  exact wpAny_pure (h (pz.map Prod.snd) _ ⟨pz, z1, rfl, rp_pw (f := fun p q => if b then q ≤ p else p ≤ q) z2 hp3⟩ (Inv.adopt I2 fl ok hls))
theorem sort_end {keys : Array Value} {e : Nat} {H : Hp} {s : Shared} (I : Inv X pins σ H s) (fl : FpOk X pins H l) (fk : FpOk X pins H kS) (hls : X.s₀.heap.objs.size ≤ l) (hne : kS ≠ l) (hl : s.heap.get? l = some (seqObj "list" #[] e1)) (hk : s.heap.get? kS = some (seqObj "list" keys e))
    (hki : IntsAre keys.toList kz) (hlen : kz.length = vs.length) (h64 : vs.length < 64) (rv : Vals ys vs) (h : ∀ ys' s', SortedV b kz ys ys' → Inv X pins σ (upd H l (.lst ys')) s' → P (.done (.ret .none)) s') :
    wpAny (model X.prog X.w) A (ksk_end l b vs.toArray e1 (.ref kS) keys) P E s := by
  have hsz : keys.size = vs.length := by have h1 := hki.length; rw [Array.length_toList] at h1; omega
  have hzs : (keys.zip vs.toArray).size = vs.length := by rw [Array.size_zip, hsz, List.size_toArray, Nat.min_self]
  have step : ∀ t : Sem PySem.Fin, wpAny (model X.prog X.w) A t P E s → wpAny (model X.prog X.w) A (if b = true then (do let _ ← rule "list.sort.reverse"; t) else t) P E s := by
    intro t ht
    split
    · exact wpAny_bind (wpAny_rule ht)
    · exact ht
  have hstart : (if b = true then (keys.zip vs.toArray).reverse else keys.zip vs.toArray).Perm (keys.zip vs.toArray) := by
    cases b with
    | false => exact Array.Perm.refl _
    | true => exact Array.perm_iff_toList_perm.mpr (by rw [if_pos rfl, Array.toList_reverse]; exact List.reverse_perm _)
  unfold ksk_end
  try dsimp only
  refine step _ ?_
  by_cases h2 : vs.toArray.size < 2
  · rw [if_pos h2, if_pos h2]
    refine wpAny_bind (wpAny_pure ?_)
    rw [StateT.run_pure]
    refine wpAny_bind (wpAny_pure ?_)
    try dsimp only
    refine sort_tail (st := SortSt.mk' general' (if b = true then (keys.zip vs.toArray).reverse else keys.zip vs.toArray) #[] 7 none) I fl fk hls hne hl hk hki hlen h64 hstart ?_ rfl rv h
    intro i j hij hj
    have hj2 : j < (if b = true then (keys.zip vs.toArray).reverse else keys.zip vs.toArray).size := hj
    rw [hstart.size_eq, hzs] at hj2
    rw [List.size_toArray] at h2
    have : i = j := by omega
    subst this
    exact Int.le_refl _
  · rw [if_neg h2, if_neg h2]
    rw [List.size_toArray] at h2
    rw [ksk_kind hki (by rw [hsz]; omega)]
    refine wpAny_bind (wpAny_pure ?_)
    refine wpAny_bind (wpAny_mono (wpS_sortRuns (a₀ := keys.zip vs.toArray) (st := SortSt.mk' oneType' (if b = true then (keys.zip vs.toArray).reverse else keys.zip vs.toArray) #[] 7 none)
      (Q := fun _ st' => (arrOf st').Perm (keys.zip vs.toArray) ∧ failedOf st' = none ∧ SortedTo (arrOf st') (keys.zip vs.toArray).size)
      (ksk_intKeys hki) ⟨hstart, rfl, rfl, rfl⟩ (by rw [hzs]; omega) (by rw [hzs]; exact h64) fun st' a1 a2 a3 => ⟨a1, a2, a3⟩) ?_ fun _ _ e => e)
    rintro ⟨⟨⟩, st'⟩ s' ⟨rfl, hp, hf, hs⟩
    try dsimp only
    exact sort_tail I fl fk hls hne hl hk hki hlen h64 hp (by rw [hp.size_eq]; exact hs) hf rv h
theorem sort_rest {H : Hp} {s : Shared} (I : Inv X pins σ H s) (fl : FpOk X pins H l) (fk : FpOk X pins H kS) (hls : X.s₀.heap.objs.size ≤ l) (hne : kS ≠ l) (hl : s.heap.get? l = some (seqObj "list" #[] e1)) (hk : s.heap.get? kS = some (seqObj "list" #[] 0))
    (hlen : kz.length = vs.length) (h64 : vs.length < 64) (rv : Vals ys vs) (sm : Same H1 H)
    (turn : ∀ (pins' : List (Addr × Obj)) (i : Nat) (u : Value) (y : V) (k : Int) (H : Hp) (s : Shared), vs[i]? = some u → ys[i]? = some y → kz[i]? = some k → RelV y u → Same H1 H → Inv X pins' σ H s → (∀ p ∈ pins, p ∈ pins') → wpAny (model X.prog X.w) A (call f [u]) (EP X pins' σ fun r H' => r = .int k ∧ Same H H') (fun _ _ => False) s)
    (h : ∀ ys' H' s', SortedV b kz ys ys' → Same H1 H' → H' l = none → Inv X pins σ (upd H' l (.lst ys')) s' → P (.done (.ret .none)) s') : wpAny (model X.prog X.w) A (ksk_rest l f b vs.toArray e1 (.ref kS)) P E s := by
  unfold ksk_rest
  refine wpAny_bind (wpAny_rule ?_)
  first
    | rw [List.forIn_toArray]
    | (rw [← Array.forIn_toList]; simp only [List.toList_toArray])
    | rw [← Array.forIn_toList]
  refine wpAny_bind (ksk_fold (fun i s' => ∃ H' kA e, Inv X pins σ H' s' ∧ FpOk X pins H' l ∧ FpOk X pins H' kS ∧ s'.heap.get? l = some (seqObj "list" #[] e1) ∧ s'.heap.get? kS = some (seqObj "list" kA e) ∧ IntsAre kA.toList (kz.take i) ∧ Same H1 H') vs 0 s ⟨H, #[], 0, I, fl, fk, hl, hk, by simpa using IntsAre.nil, sm⟩ ?step ?done)
  case step =>
    rintro j x s' hx ⟨H', kA, e, I', fl', fk', hl', hk', hki, sm'⟩
    simp only [Nat.zero_add] at hki ⊢
    have hj : j < vs.length := (List.getElem?_eq_some_iff.mp hx).1
    obtain ⟨k, hkj⟩ : ∃ k, kz[j]? = some k := ⟨_, List.getElem?_eq_getElem (by omega)⟩
    have hyl := rv.length
    obtain ⟨y, hyj⟩ : ∃ y, ys[j]? = some y := ⟨_, List.getElem?_eq_getElem (by omega)⟩
    obtain ⟨u0, hu0, ru0⟩ := rv.get hyj
    rw [hx] at hu0
    cases hu0
    have hz : kA.size ≤ vs.length := by
      have h1 := hki.length
      rw [Array.length_toList, List.length_take] at h1
      omega
    obtain ⟨l0, l1, l2, l3, l4, l5⟩ := id fl'
    obtain ⟨k0, k1, k2, k3, k4, k5⟩ := id fk'
    have I2 : Inv X ((l, seqObj "list" #[] e1) :: (kS, seqObj "list" kA e) :: pins) σ H' s' := Inv.pin1 (Inv.pin1 I' hk' k0 k1 k2 (fun v z => nomatch z)) hl' l0 l1 l2 (fun v z => nomatch z)
    refine wpAny_bind (wpAny_attempt (wpAny_mono (turn _ j x y k H' s' hx hyj hkj ru0 sm' I2 fun p hp => List.mem_cons_of_mem _ (List.mem_cons_of_mem _ hp)) (fun w s2 he => ?_) fun _ _ hF => hF.elim))
    obtain ⟨v2, H2, I3, r3, rfl, sm2⟩ := he
    obtain ⟨t2, rfl⟩ := r3
    try dsimp only
    have pl := I3.pin (l, seqObj "list" #[] e1) (List.mem_append_right _ List.mem_cons_self)
    have pk := I3.pin (kS, seqObj "list" kA e) (List.mem_append_right _ (List.mem_cons_of_mem _ List.mem_cons_self))
    have I4 : Inv X pins σ H2 s2 := Inv.sub I3 fun p hp => List.mem_cons_of_mem _ (List.mem_cons_of_mem _ hp)
    have s1 := Heap.SameBut.update s2.heap kS (Obj.mapSeq (·.push (.int k t2)))
    obtain ⟨c2, hc2⟩ : ∃ c2, (s2.heap.update kS (Obj.mapSeq (·.push (.int k t2)))).get? kS = some (seqObj "list" (kA.push (.int k t2)) c2) := ⟨_, get?_update_seq pk.1 (·.push (.int k t2))⟩
    have ek : kz.take (j + 1) = kz.take j ++ [k] := by rw [List.take_add_one, hkj]; simp
    have ea : (kA.push (Value.int k t2)).toList = kA.toList ++ [Value.int k t2] := by simp
    have fl2 : FpOk X pins H2 l := FpOk.at' fl' pl.2.1
    have fk2 : FpOk X pins H2 kS := FpOk.at' fk' pk.2.1
    obtain ⟨m0, m1, m2, m3, m4, m5⟩ := id fk2
    refine wpAny_bind (listUpdate_at pk.1 rfl ?_ (by rw [sizeLine_eq]; omega) (Nat.le_trans (Nat.le_of_eq (Array.size_push ..)) (by rw [sizeLine_eq]; omega)))
    have I5 : Inv X pins σ H2 { s2 with heap := s2.heap.update kS (Obj.mapSeq (·.push (.int k t2))) } := I4.turned (t' := s2.toks) (fun b o hb e => (s1.2 b hb).trans e) m0 m1 m3 m4 m5
    exact wpAny_pure ⟨rfl, H2, kA.push (.int k t2), c2, I5, fl2, fk2, (s1.2 l (Ne.symm hne)).trans pl.1, hc2, by rw [ea, ek]; exact ksk_snoc hki, sm'.trans sm2⟩
  case done =>
    rintro s' ⟨H', kA, e, I', fl', fk', hl', hk', hki, sm'⟩
    have hk2 : IntsAre kA.toList kz := by
      have e3 : kz.take (0 + vs.length) = kz := List.take_of_length_le (by omega)
      rw [e3] at hki
      exact hki
    try dsimp only
    refine wpAny_bind (listItems_at hk' rfl ?_)
    exact sort_end I' fl' fk' hls hne hl' hk' hk2 hlen h64 rv fun ys' s2 so I2 => h ys' H' s2 so sm' fl'.1 I2
theorem sort_tree {H : Hp} {s : Shared} {n : Nat} (I : Inv X pins σ H s) (fl : FpOk X pins H l) (hls : X.s₀.heap.objs.size ≤ l) (hl : s.heap.get? l = some (seqObj "list" vs.toArray n)) (hlen : kz.length = vs.length) (h64 : vs.length < 64) (rv : Vals ys vs) (sm : Same H1 H)
    (turn : ∀ (pins' : List (Addr × Obj)) (i : Nat) (u : Value) (y : V) (k : Int) (H : Hp) (s : Shared), vs[i]? = some u → ys[i]? = some y → kz[i]? = some k → RelV y u → Same H1 H → Inv X pins' σ H s → (∀ p ∈ pins, p ∈ pins') → wpAny (model X.prog X.w) A (call f [u]) (EP X pins' σ fun r H' => r = .int k ∧ Same H H') (fun _ _ => False) s)
    (h : ∀ ys' H' s', SortedV b kz ys ys' → Same H1 H' → H' l = none → Inv X pins σ (upd H' l (.lst ys')) s' → P (.done (.ret .none)) s') : wpAny (model X.prog X.w) A (ksk_tree l f b) P E s := by
  obtain ⟨l0, l1, l2, l3, l4, l5⟩ := id fl
  have s1 := Heap.SameBut.update s.heap l (Obj.mapSeq fun _ => (#[] : Array Value))
  obtain ⟨e1, ho1⟩ : ∃ e1, (s.heap.update l (Obj.mapSeq fun _ => (#[] : Array Value))).get? l = some (seqObj "list" #[] e1) := ⟨_, get?_update_seq hl fun _ => #[]⟩
  have I1 : Inv X pins σ H { s with heap := s.heap.update l (Obj.mapSeq fun _ => (#[] : Array Value)) } := I.turned (t' := s.toks) (fun b o hb e => (s1.2 b hb).trans e) l0 l1 l3 l4 l5
  have I2 : Inv X pins σ H { s with heap := (s.heap.update l (Obj.mapSeq fun _ => (#[] : Array Value))).push (seqObj "tuple" vs.toArray 0) } := I1.kept (t' := s.toks) fun b o e => Heap.get?_push_of_some _ e
  have I3 : Inv X pins σ H { s with heap := ((s.heap.update l (Obj.mapSeq fun _ => (#[] : Array Value))).push (seqObj "tuple" vs.toArray 0)).push (seqObj "list" #[] 0) } := I2.kept (t' := s.toks) fun b o e => Heap.get?_push_of_some _ e
  have hlt : l < ((s.heap.update l (Obj.mapSeq fun _ => (#[] : Array Value))).push (seqObj "tuple" vs.toArray 0)).objs.size := Heap.lt_size (Heap.get?_push_of_some _ ho1)
  unfold ksk_tree
  refine wpAny_bind (listItems_at hl rfl ?_)
  refine wpAny_bind (listUpdate_at hl rfl ?_ (by rw [List.size_toArray, sizeLine_eq]; omega) (Nat.zero_le _))
  refine wpAny_bind (seqEpoch_at ho1 rfl ?_)
  refine wpAny_bind (wpAny_newTuple ?_ (by show vs.length ≤ _; rw [sizeLine_eq]; omega))
  refine wpAny_bind (wpAny_newList ?_ (Nat.zero_le _))
  refine wpAny_holding ?_
  refine sort_rest (s := { s with heap := ((s.heap.update l (Obj.mapSeq fun _ => (#[] : Array Value))).push (seqObj "tuple" vs.toArray 0)).push (seqObj "list" #[] 0) }) (kS := ((s.heap.update l (Obj.mapSeq fun _ => (#[] : Array Value))).push (seqObj "tuple" vs.toArray 0)).objs.size) I3 fl ?_ hls (Nat.ne_of_gt hlt) (Heap.get?_push_of_some _ (Heap.get?_push_of_some _ ho1)) (Heap.get?_push_size _ rfl) hlen h64 rv sm turn h
  exact I2.fpOk (Nat.le_refl _) (I2.hok.fresh (Nat.le_refl _))
end
end ST
set_option Elab.async false
set_option linter.all false
set_option maxRecDepth 100000
set_option maxHeartbeats 4000000
namespace ST
variable [TN]
open PySem PySem.Spec PyProof.Rows L2
section
variable {X : Cx}
noncomputable def rEqTN (K : PySem.W.Frag) : R2 := fun x y H Q => ∃ a b xs, x = .ref a ∧ y = .ref b ∧ SqT K H a xs ∧ SqT K H b [] ∧ Q (.bl xs.isEmpty) H
noncomputable def rEqLI (K : PySem.W.Frag) : R2 := fun x y H Q => ∃ (a b : Addr) (ns ms : List Int), x = .ref a ∧ y = .ref b ∧ SqL K H a (ns.map V.int) ∧ SqL K H b (ms.map V.int) ∧ Q (.bl (decide (ns = ms))) H
end
end ST
set_option Elab.async false
set_option linter.all false
set_option maxRecDepth 100000
set_option maxHeartbeats 4000000
namespace ST
variable [TN]
open PySem PySem.Spec PyProof.Rows L2
noncomputable def tListRange (ta : TA) : TE := fun σ H Q => ta σ H fun vs H1 => ∃ n : Nat, vs = [.int n] ∧ n ≤ sizeLine ∧ ∀ l, H1 l = none → Q (.ref l) (upd H1 l (.lst ((List.range n).map fun i : Nat => V.int i)))
theorem vals_of : ∀ {xs : List V} {us : List Value}, xs.length = us.length → (∀ (i : Nat) (x : V) (u : Value), xs[i]? = some x → us[i]? = some u → RelV x u) → Vals xs us
  | [], [], _, _ => .nil
  | [], _ :: _, h, _ => by cases h
  | _ :: _, [], h, _ => by cases h
  | x :: xs, u :: us, h, z => .cons (z 0 x u rfl rfl) (vals_of (Nat.succ.inj h) fun i y w h1 h2 => z (i + 1) y w h1 h2)
end ST
set_option Elab.async false
set_option linter.all false
set_option maxRecDepth 100000
set_option maxHeartbeats 4000000
namespace ST
variable [TN]
open PySem PySem.Spec PyProof.Rows L2
theorem walk_raw {prog : Program} {w : World} {A : Around} (hh : A.handled = none) (it d : Addr) (hne : d ≠ it) (o : Obj) (es : Array DictEntry) (ep : Nat) (hd : o.data = .dict es ep) :
    Walks prog w A it [it, d] [it] es.size (fun i v => ∃ e, es[i]? = some e ∧ v = e.key) (fun i h => h.IsKeyIter it d i es.size ep ∧ h.get? d = some o) where
  sub := fun b hb => by simp at hb; simp [hb]
  frame := fun _ _ _ st hk => ⟨st.1.at fun o e => hk it (by simp) o e, hk d (by simp) _ st.2⟩
  item := fun i s Q E hi st hQ => by
    obtain ⟨e, he⟩ : ∃ e, es[i]? = some e := ⟨es[i], by simp [hi]⟩
    exact next_item st.1 st.2 hd he fun h' st2 sb => hQ _ h' s.toks ⟨e, he, rfl⟩ ⟨st2, (sb.2 d hne).trans st.2⟩ fun b o hb q => (sb.2 b (fun z => hb (by simp [z]))).trans q
  done := fun s Q E st hQ => next_end hh st.1 st.2 hd (Nat.le_refl _) fun h' eb => hQ h' s.toks fun b o hb q => eb b o (fun z => hb (by simp [z])) q
  self := fun _ _ _ _ st hQ => wpAny_pyIter_keyiter st.1 hQ
theorem kdl_raw {prog : Program} {w : World} {d : Addr} {o : Obj} {es : Array DictEntry} {ep : Nat} (hs : (d == sysModules) = false) (hx : o.ExactDict) (hd : o.data = .dict es ep) :
    PySem.W.KdlSrc prog w "dict" d d es.size (fun i v => ∃ e, es[i]? = some e ∧ v = e.key) (fun h => h.get? d = some o) where
  type := fun _ hm => ⟨o, hm, hx.1⟩
  there := fun _ hm => ⟨Heap.lt_size hm, Heap.lt_size hm⟩
  keep := fun _ _ hm hk => hk d (.inl rfl) o hm
  notList := by decide
  notTuple := by decide
  hint := fun _ _ _ _ hm hq => PySem.W.kdl_hint_dict ⟨o, hm, hx.1⟩ hq
  iter := fun A s hh hm => ⟨_, _, fun _ _ hq => iter_dict hs hm hx hd hq, walk_raw hh _ d (Nat.ne_of_lt (Heap.lt_size hm)) o es ep hd, ⟨_, Heap.get?_push_size _ rfl, rfl, rfl⟩, Heap.get?_push_of_some _ hm⟩
section
variable {X : Cx} {pins : List (Addr × Obj)} {σ : L2.St} {H : Hp} {s : Shared}
theorem collect_q {A : Around} {E : Value → Shared → Prop} {a : Addr} {ep : Nat} {xs : List (Qn × Addr × V)} (hh : A.handled = none) (I : Inv X pins σ H s) (e : H a = some (dQ X.prog X.w a ep xs)) {Q : List Value → Shared → Prop}
    (h : ∀ h' tk us, (∀ b o, s.heap.get? b = some o → h'.get? b = some o) → Vals (xs.map fun x => V.ref x.2.1) us → Q us { s with heap := h', toks := tk }) : wpAny (model X.prog X.w) A (collect (.ref a)) Q E s := by
  obtain ⟨h1, h2, h3, vs, r, o, es, e1, e2, e3, e4⟩ := QD.raw I.hok e
  have hl : es.size = xs.length := by rw [size_of_entries e4]; exact (Paired.length r).symm
  refine PySem.W.kdu_collect (kdl_raw h2 e2 e3) hh e1 (by omega) fun h' tk acc old it => h h' tk acc.toList old ?_
  have hi1 : acc.toList.length = es.size := by rw [Array.length_toList]; exact it.1
  refine vals_of (by rw [List.length_map, hi1, hl]) fun i x u hx hu => ?_
  rw [List.getElem?_map] at hx
  cases q : xs[i]? with
  | none => rw [q] at hx; cases hx
  | some y =>
    rw [q] at hx
    have hx' : V.ref y.2.1 = x := by simpa using hx
    obtain ⟨en, q1, q2⟩ := it.2 i u (by rw [← Array.getElem?_toList]; exact hu)
    obtain ⟨e5, q3, q4⟩ := es_at r e4 q
    rw [q1] at q3
    cases q3
    rw [← hx', q2, q4]
    rfl
variable {A : Around} {f : Addr} {fo : Obj} {ys : List V} {kz : List Int} {b : Bool} {x : Value} {kw : List (Str × Value)} {E : Value → Shared → Prop}
theorem sorted_call {H1 : Hp} {Q : Value → Shared → Prop} (I : Inv X pins σ H s) (sm : Same H1 H) (hlen : kz.length = ys.length) (h64 : ys.length < 64)
    (hcol : ∀ {Q : List Value → Shared → Prop}, (∀ h' tk us, (∀ b o, s.heap.get? b = some o → h'.get? b = some o) → Vals ys us → Q us { s with heap := h', toks := tk }) → wpAny (model X.prog X.w) A.in1 (collect x) Q E s)
    (ha1 : argsOk "sorted" ⟨[x], kw⟩) (ha2 : ∀ z, argsOk "list.sort" ⟨[.ref z], kw⟩) (ht : ∀ z, Builtin.«list.sort» ⟨[.ref z], kw⟩ = ksk_tree z (.ref f) b)
    (turn : ∀ (pins' : List (Addr × Obj)) (i : Nat) (u : Value) (y : V) (k : Int) (H : Hp) (s : Shared), ys[i]? = some y → kz[i]? = some k → RelV y u → Same H1 H → Inv X pins' σ H s → (∀ p ∈ pins, p ∈ pins') → wpAny (model X.prog X.w) A.in1.in1 (call (.ref f) [u]) (EP X pins' σ fun r H' => r = .int k ∧ Same H H') (fun _ _ => False) s)
    (h : ∀ l ys' H' s', SortedV b kz ys ys' → Same H1 H' → H' l = none → Inv X pins σ (upd H' l (.lst ys')) s' → Q (.ref l) s') : wpAny (model X.prog X.w) A (call (.builtin "sorted") [x] kw) Q E s := by
  refine call_function_entry_kw kind_sorted plain_sorted entry_sorted ha1 ?_
  unfold Builtin.«sorted»
  refine wpAny_bind (m := checkCount "sorted" 1 1 _) (wpAny_pure ?_)
  refine wpAny_bind (hcol fun h' tk us old rv => ?_)
  have hul := rv.length
  refine wpAny_bind (wpAny_newList ?_ (by rw [sizeLine_eq]; omega))
  have I1 : Inv X pins σ H { s with heap := h', toks := tk } := I.kept old
  have I2 : Inv X pins σ H { s with heap := h'.push (seqObj "list" us.toArray 0), toks := tk } := I1.kept (t' := tk) fun b o e => Heap.get?_push_of_some _ e
  have fl : FpOk X pins H h'.objs.size := I1.fpOk (Nat.le_refl _) (I1.hok.fresh (Nat.le_refl _))
  have hl : (h'.push (seqObj "list" us.toArray 0)).get? h'.objs.size = some (seqObj "list" us.toArray 0) := Heap.get?_push_size _ rfl
  refine wpAny_bind (wpAny_holding (wpAny_call_entry_kw slot_list_sort ⟨_, hl, rfl⟩ entry_list_sort ?body (ha2 _)))
  case body =>
    show wpAny (model X.prog X.w) A.in1.in1 (Builtin.«list.sort» ⟨[.ref h'.objs.size], kw⟩) _ _ _
    rw [ht]
    refine sort_tree (s := { s with heap := h'.push (seqObj "list" us.toArray 0), toks := tk }) I2 fl (Nat.le_trans I1.sz (Nat.le_refl _)) hl (by omega) (by omega) rv sm (fun pins' i u y k H' s' _ hy hk r sm' I' hsub => turn pins' i u y k H' s' hy hk r sm' I' hsub) fun ys' H' s' so sm' hn I' => ⟨_, rfl, ?_⟩
    exact wpAny_pure ⟨_, rfl, h _ ys' H' s' so sm' hn I'⟩
end
end ST
set_option Elab.async false
set_option linter.all false
set_option maxRecDepth 100000
set_option maxHeartbeats 4000000
namespace ST
variable [TN]
open PySem PySem.Spec PyProof.Rows L2
noncomputable def tSort (T : Addr) (hs : List Nat) (b : Bool) (src : V → Hp → List V → Prop) (te tb : TE) : TE := fun σ H Q => te σ H fun x H1 => ∃ ys kz, src x H1 ys ∧ TabQ H1 T (TN.nm T) ∧ kz.length = ys.length ∧ ys.length < 64 ∧
  (∀ (i : Nat) (y : V) (k : Int) (H' : Hp), ys[i]? = some y → kz[i]? = some k → Same H1 H' → tb (some y :: hid hs 0 σ) H' fun r H'' => r = .int k ∧ Same H' H'') ∧
  ∀ (l : Addr) (ys' : List V) (H' : Hp), SortedV b kz ys ys' → Same H1 H' → H' l = none → Q (.ref l) (upd H' l (.lst ys'))
noncomputable def srcQ (P : Program) (w : World) : V → Hp → List V → Prop := fun x H ys => ∃ a ep xs, x = .ref a ∧ H a = some (dQ P w a ep xs) ∧ ys = xs.map fun x => V.ref x.2.1
noncomputable def srcT (K : PySem.W.Frag) : V → Hp → List V → Prop := fun x H ys => ∃ a, x = .ref a ∧ SqT K H a ys
theorem nT_sq {K : PySem.W.Frag} {H H' : Hp} {a : Addr} {xs : List V} (e : Same H H') (h : SqT K H a xs) : SqT K H' a xs := by
  rcases h with (h | ⟨o, h⟩) | h
  · exact .inl (.inl (e _ _ h))
  · exact .inl (.inr ⟨o, e _ _ h⟩)
  · exact .inr h
section
variable {X : Cx} {e : Expr} {te tb : TE} {params : Arguments} {body : Expr} {scope : Scope} {lpos p pos kpos rpos : Pos} {x : Str} {hs : List Nat} {T : Addr} {k : Nat} {rk : Nat} {cpos : Pos}
theorem pe_sortedQR (hc : X.calm = true) (hr : Room (k + 3) X.A) (hg : Gl X "sorted") (hm : X.mg "sorted" = none) (he : PE X e te) (L : Lm X T) (hq : X.env.qual ++ "<lambda>" = TN.nm T) (CS : CloLS X scope x hs)
    (hbody : ∀ cl A' L' f' cv' s₀ H₀, Room k (A'.deeper (lamEnv (TN.nm T) scope cl L' f' cv')) → PE (cxL X scope cl x A' (lamEnv (TN.nm T) scope cl L' f' cv') s₀ H₀) body tb)
    (hb : ∀ u cl pm cv ctv, bindArgs (PySem.W.kla_fn "<lambda>" (TN.nm T) params body scope cl pm cv ctv) ⟨[u], []⟩ = pure [(x, u)] := by intro _ _ _ _ _; rfl)
    (hdef : defaultsOf params X.env = ([], []) := by rfl) (hco : scope.isCoroutine = false := by rfl) (hgen : scope.isGenerator = false := by rfl)
    (hs1 : backTo pos (starEach [e] X.env) = [(false, eval e X.env)] := by rfl)
    (hk1 : backToKw pos (keywordEach [⟨some "key", .Lambda params body scope lpos, kpos⟩, ⟨some "reverse", .Constant (.bool true) rk cpos, rpos⟩] X.env) = [(some (Str.ofString "key"), do let v ← eval (.Lambda params body scope lpos) X.env; standAt pos; pure v), (some (Str.ofString "reverse"), do let v ← eval (.Constant (.bool true) rk cpos) X.env; standAt pos; pure v)] := by rfl) :
    PE X (.Call (.Name "sorted" p) [e] [⟨some "key", .Lambda params body scope lpos, kpos⟩, ⟨some "reverse", .Constant (.bool true) rk cpos, rpos⟩] pos) (tSort T hs true (srcQ X.prog X.w) te tb) := by
  intro pins s σ H Q I h
  refine wpAny_Call_Name_kw (ld_blt I hg hm (show bootBuiltins "sorted" = some (.builtin "sorted") from boot_sorted) ?_)
  refine callWith_kw ?_ hs1 (by rw [hs1]; rfl) (by rw [hk1]; rfl) (by rw [hk1]; rfl)
  rw [hs1, hk1]
  refine Calls.spliced_cons (thn (he pins s σ H _ I h) fun u s1 ⟨v, H1, I1, r1, ys, kz, ⟨a, ep, xs, ev, e1, ey⟩, T1, hlen, h64, hkey, hq2⟩ => Calls.spliced_nil ?_)
  subst ev ey
  cases r1
  have CL := CS.clo I1
  refine evalAll_cons (wpAny_bind (lam_make L CL.clos hq hdef I1 T1 fun f H2 fo s2 sm2 I2 LA => wpAny_bind (wpAny_standAt (wpAny_pure (evalAll_cons (wpAny_bind ?_))))))
  have pb : PE X (.Constant (.bool true) rk cpos) (fun _ H Q => Q (.bl true) H) := pe_bl
  refine thn (pb ((f, fo) :: pins) s2 σ H2 (fun v H' => v = .bl true ∧ H' = H2) I2 ⟨rfl, rfl⟩) fun w s3 z => wpAny_bind (wpAny_standAt (wpAny_pure (evalAll_nil ?_)))
  obtain ⟨vb, H3, I3, r3, rfl, rfl⟩ := z
  cases (show w = Value.bool true from r3)
  show wpAny _ _ (call (.builtin "sorted") [.ref a] [(Str.ofString "key", .ref f), (Str.ofString "reverse", .bool true)]) _ _ s3
  have hh : X.A.handled = none := I.ok.hd hc
  refine sorted_call (H1 := H3) I3 (Same.refl _) hlen h64 (fun {Q} hh2 => collect_q (A := X.A.in1) (show X.A.in1.handled = none from hh) I3 (sm2 _ _ e1) hh2) (ksk_s2 _ _ _) (fun z => ksk_l2 _ _ _) (fun z => ksk_t2 f z true) (fun pins' i u y kk H' s' hy hk r sm' I' hsub => ?_) (fun l ys' H' s' so sm' hn I' => ?_)
  · have LA' : LamAt H' pins' (TN.nm T) params body scope (closL X.env.cells scope.names []) f := by
      have z := LA.mono sm'
      obtain ⟨pm, c, ctv, m, r⟩ := z.pin
      exact ⟨pm, c, ctv, hsub _ m, r⟩
    exact lam_call (E := fun _ _ => False) (v := y) I' LA' CL CS.hid (show X.A.in1.in1.frames = some X.stack from I.ok.frames) hr.in1.in1 hco hgen (fun pm cv ctv => hb _ _ pm cv ctv) (fun A' L' f' cv' s₀ H₀ => hbody _ A' L' f' cv' s₀ H₀) r (hkey i y kk H' hy hk (sm2.trans sm'))
  · exact ⟨.ref l, _, Inv.sub I' fun p hp => List.mem_cons_of_mem _ hp, rfl, hq2 l ys' H' so (sm2.trans sm') hn⟩
theorem pe_sortedT (hc : X.calm = true) (hr : Room (k + 3) X.A) (hg : Gl X "sorted") (hm : X.mg "sorted" = none) (he : PE X e te) (L : Lm X T) (hq : X.env.qual ++ "<lambda>" = TN.nm T) (CS : CloLS X scope x hs)
    (hbody : ∀ cl A' L' f' cv' s₀ H₀, Room k (A'.deeper (lamEnv (TN.nm T) scope cl L' f' cv')) → PE (cxL X scope cl x A' (lamEnv (TN.nm T) scope cl L' f' cv') s₀ H₀) body tb)
    (hb : ∀ u cl pm cv ctv, bindArgs (PySem.W.kla_fn "<lambda>" (TN.nm T) params body scope cl pm cv ctv) ⟨[u], []⟩ = pure [(x, u)] := by intro _ _ _ _ _; rfl)
    (hdef : defaultsOf params X.env = ([], []) := by rfl) (hco : scope.isCoroutine = false := by rfl) (hgen : scope.isGenerator = false := by rfl)
    (hs1 : backTo pos (starEach [e] X.env) = [(false, eval e X.env)] := by rfl)
    (hk1 : backToKw pos (keywordEach [⟨some "key", .Lambda params body scope lpos, kpos⟩] X.env) = [(some (Str.ofString "key"), do let v ← eval (.Lambda params body scope lpos) X.env; standAt pos; pure v)] := by rfl) :
    PE X (.Call (.Name "sorted" p) [e] [⟨some "key", .Lambda params body scope lpos, kpos⟩] pos) (tSort T hs false (srcT X.K) te tb) := by
  intro pins s σ H Q I h
  refine wpAny_Call_Name_kw (ld_blt I hg hm (show bootBuiltins "sorted" = some (.builtin "sorted") from boot_sorted) ?_)
  refine callWith_kw ?_ hs1 (by rw [hs1]; rfl) (by rw [hk1]; rfl) (by rw [hk1]; rfl)
  rw [hs1, hk1]
  refine Calls.spliced_cons (thn (he pins s σ H _ I h) fun u s1 ⟨v, H1, I1, r1, ys, kz, ⟨a, ev, e1⟩, T1, hlen, h64, hkey, hq2⟩ => Calls.spliced_nil ?_)
  subst ev
  cases r1
  have CL := CS.clo I1
  refine evalAll_cons (wpAny_bind (lam_make L CL.clos hq hdef I1 T1 fun f H2 fo s2 sm2 I2 LA => wpAny_bind (wpAny_standAt (wpAny_pure (evalAll_nil ?_)))))
  show wpAny _ _ (call (.builtin "sorted") [.ref a] [(Str.ofString "key", .ref f)]) _ _ s2
  obtain ⟨its, rv, ⟨ot, ho, hcl, nt, hdt⟩, hz⟩ := I2.tuple (nT_sq sm2 e1)
  refine sorted_call (H1 := H2) I2 (Same.refl _) hlen h64 (fun {Q} hh2 => wpAny_collect_seq (A := X.A.in1) a (T := "tuple") (.inr rfl) ho hcl hdt (fun h' old => ?_) (by rw [List.size_toArray, ← rv.length]; exact hz)) (ksk_s1 _ _) (fun z => ksk_l1 _ _) (fun z => ksk_t1 f z) (fun pins' i u y kk H' s' hy hk r sm' I' hsub => ?_) (fun l ys' H' s' so sm' hn I' => ?_)
  · exact hh2 h' s2.toks _ old (by simpa using rv)
  · have LA' : LamAt H' pins' (TN.nm T) params body scope (closL X.env.cells scope.names []) f := by
      have z := LA.mono sm'
      obtain ⟨pm, c, ctv, m, r⟩ := z.pin
      exact ⟨pm, c, ctv, hsub _ m, r⟩
    exact lam_call (E := fun _ _ => False) (v := y) I' LA' CL CS.hid (show X.A.in1.in1.frames = some X.stack from I.ok.frames) hr.in1.in1 hco hgen (fun pm cv ctv => hb _ _ pm cv ctv) (fun A' L' f' cv' s₀ H₀ => hbody _ A' L' f' cv' s₀ H₀) r (hkey i y kk H' hy hk (sm2.trans sm'))
  · exact ⟨.ref l, _, Inv.sub I' fun p hp => List.mem_cons_of_mem _ hp, rfl, hq2 l ys' H' so (sm2.trans sm') hn⟩
end
end ST
set_option Elab.async false
set_option linter.all false
set_option maxRecDepth 100000
set_option maxHeartbeats 4000000
namespace ST
variable [TN]
open PySem PySem.Spec PyProof.Rows L2
section
variable {X : Cx}
noncomputable def rPlus (K : PySem.W.Frag) : R2 := fun x y H Q => ∃ a b xs ys, x = .ref a ∧ y = .ref b ∧ SqT K H a xs ∧ SqT K H b ys ∧ ys ≠ [] ∧ xs.length + ys.length ≤ sizeLine ∧
  (xs = [] → Q (.ref b) H) ∧ (xs ≠ [] → ∀ p, H p = none → Q (.ref p) (upd H p (.tup (xs ++ ys))))
theorem op_plus : OpR X (binaryOp .Add) (rPlus X.K) := by
  intro pins s σ H x y v u Q I rx ry h
  obtain ⟨a, b, xs, ys, rfl, rfl, ha, hb, hy, hz, q1, q2⟩ := h
  by_cases hx : xs = []
  · cases rx
    cases ry
    subst hx
    obtain ⟨its, r1, p1, _⟩ := I.tuple ha
    obtain ⟨its2, r2, p2, _⟩ := I.tuple hb
    cases r1
    obtain ⟨⟨cls, dd, data, sl⟩, ho, hc, n, hd⟩ := p1
    obtain ⟨⟨cls2, dd2, data2, sl2⟩, ho2, hc2, n2, hd2⟩ := p2
    simp only at hc hd hc2 hd2
    subst hc hd hc2 hd2
    exact concat_meets ⟨_, ho, rfl⟩ ⟨_, ho2, rfl⟩ noFill_tuple_add seq_tuple_add PySem.F.slot_tuple_add PySem.F.entry_tuple_add (PySem.F.args_tuple_add_2 _ _) (tuple_addW0 a b #[] its2.toArray n n2 dd dd2 sl sl2 rfl) ⟨ho, ho2, ⟨.ref b, H, I, rfl, q1 rfl⟩⟩
  · exact op_catT pins s σ H _ _ v u Q I rx ry ⟨a, b, xs, ys, rfl, rfl, ha, hb, hx, hz, fun z => absurd z hy, fun _ => q2 hx⟩
noncomputable def rIndexQ : V → List V → Hp → VK → Prop := fun x vs H Q => ∃ (l : Addr) (ys : List V) (qs : List Qn) (y : V) (q : Qn) (j : Nat), x = .ref l ∧ vs = [y] ∧ H l = some (.lst ys) ∧ ys.length = qs.length ∧ (∀ (i : Nat) (v : V) (p : Qn), ys[i]? = some v → qs[i]? = some p → QIs H v p) ∧ QIs H y q ∧
  qs[j]? = some q ∧ (∀ (m : Nat) (p : Qn), m < j → qs[m]? = some p → p ≠ q) ∧ Q (.int j) H
theorem mt_indexQ (hu : X.A.units + 2 < cLine) : MtM X "list.index" rIndexQ := by
  intro pins s σ H x vs v us Q I rx rv h
  obtain ⟨l, ys, qs, y, q, j, rfl, rfl, hH, hlen, hq, kq, hj, hno, z⟩ := h
  cases rx
  obtain ⟨u, rfl, ru⟩ := rv.one
  obtain ⟨b, rfl⟩ := qis_ref kq
  cases ru
  obtain ⟨hz, its, n, r, hl, e⟩ := I.lstM hH
  have hjl : j < its.length := by rw [← hl, hlen]; exact (List.getElem?_eq_some_iff.mp hj).1
  have at_ : ∀ {m : Nat} (hm : m < its.length), ∃ (p : Qn) (c : Addr), qs[m]? = some p ∧ its[m] = Value.ref c ∧ QIs H (.ref c) p := fun {m} hm => by
    obtain ⟨p, hp⟩ : ∃ p, qs[m]? = some p := ⟨_, List.getElem?_eq_getElem (by omega)⟩
    obtain ⟨v, hv⟩ : ∃ v, ys[m]? = some v := ⟨_, List.getElem?_eq_getElem (by omega)⟩
    have k := hq m v p hv hp
    obtain ⟨w, hw, rw'⟩ := r.get hv
    obtain ⟨c, rfl⟩ := qis_ref k
    cases rw'
    exact ⟨p, c, hp, by have := (List.getElem?_eq_some_iff.mp hw).2; exact this, k⟩
  have hs2 : (j : Int) < 2 ^ 63 - 1 := by have h2 : sizeLine = 16777216 := sizeLine_eq; omega
  let ans : Value → Bool := fun w => match w with
    | .ref c => (List.range its.length).any fun m => decide (its[m]? = some (.ref c)) && decide (qs[m]? = some q)
    | _ => false
  have ans_eq : ∀ {m : Nat} (hm : m < its.length) {p : Qn} {c : Addr}, qs[m]? = some p → its[m] = Value.ref c → QIs H (.ref c) p → ans (its[m]) = decide (p = q) := fun {m} hm {p c} hp hc k => by
    rw [hc]
    show ((List.range its.length).any fun m => decide (its[m]? = some (.ref c)) && decide (qs[m]? = some q)) = decide (p = q)
    by_cases e : p = q
    · subst e
      rw [decide_eq_true rfl, List.any_eq_true]
      exact ⟨m, List.mem_range.mpr hm, by rw [Bool.and_eq_true]; exact ⟨decide_eq_true (by rw [List.getElem?_eq_getElem hm, hc]), decide_eq_true hp⟩⟩
    · rw [decide_eq_false e, List.any_eq_false]
      intro m' hm' zz
      rw [Bool.and_eq_true, decide_eq_true_iff, decide_eq_true_iff] at zz
      obtain ⟨p', c', hp', hc', k'⟩ := at_ (List.mem_range.mp hm')
      have e1 : c' = c := by
        have := zz.1
        rw [List.getElem?_eq_getElem (List.mem_range.mp hm'), hc'] at this
        exact Value.ref.inj (Option.some.inj this)
      subst e1
      have e2 : p' = q := by rw [zz.2] at hp'; exact (Option.some.inj hp').symm
      obtain ⟨a1, b1, x1, y1, z1⟩ := k
      obtain ⟨a2, b2, x2, y2, z2⟩ := k'
      cases x1
      cases x2
      rw [y1] at y2
      have e3 := HO.tup.inj (Option.some.inj y2)
      simp only [List.cons.injEq, V.str.injEq, V.ref.injEq, and_true] at e3
      obtain ⟨w1, rfl⟩ := e3
      rw [z1] at z2
      have e4 := HO.tup.inj (Option.some.inj z2)
      rw [bits_map, bits_map] at e4
      have e5 : p.pl.map bitI = p'.pl.map bitI := by
        have inj : ∀ {l1 l2 : List Int}, l1.map V.int = l2.map V.int → l1 = l2 := by
          intro l1
          induction l1 with
          | nil => intro l2 h; cases l2 with
            | nil => rfl
            | cons _ _ => cases h
          | cons a t ih => intro l2 h; cases l2 with
            | nil => cases h
            | cons c u => rw [List.map_cons, List.map_cons] at h; injection h with h1 h2; injection h1 with h1; rw [h1, ih h2]
        exact inj e4
      exact e ((Qn.key_inj (Prod.ext w1 e5)).trans e2)
  refine call_meets F.slot_list_index ⟨_, e, rfl⟩ F.entry_list_index (F.args_list_index_2 _ _)
    (SeqAt.list_indexAt l its.toArray n none #[] (.ref b) ans j (by simpa using hjl) hs2 ?_ ?_) ⟨e, fun w hw => ?_, ⟨.int j, H, I.tok _, ⟨_, rfl⟩, z⟩⟩
  · obtain ⟨p, c, hp, hc, k⟩ := at_ hjl
    rw [hj] at hp
    cases hp
    show ans (its.toArray[j]) = true
    rw [List.getElem_toArray, ans_eq hjl hj hc k]
    exact decide_eq_true rfl
  · intro m hm hmj
    have hm' : m < its.length := by simpa using hm
    obtain ⟨p, c, hp, hc, k⟩ := at_ hm'
    show ans (its.toArray[m]) = false
    rw [List.getElem_toArray, ans_eq hm' hp hc k]
    exact decide_eq_false (hno m p hmj hp)
  · obtain ⟨m, hm, rfl⟩ := Array.mem_iff_getElem.mp hw
    have hm' : m < its.length := by simpa using hm
    obtain ⟨p, c, hp, hc, k⟩ := at_ hm'
    rw [List.getElem_toArray, ans_eq hm' hp hc k, hc]
    have zz := qk_eqAt (A := X.A.in1) (prog := X.prog) (w := X.w) (show X.A.in1.units + 1 < cLine by show X.A.units + 1 + 1 < cLine; omega) (q_key I.hok k) (q_key I.hok kq)
    have ee : decide (p.key = q.key) = decide (p = q) := by
      by_cases e : p = q
      · rw [decide_eq_true e, decide_eq_true (by rw [e])]
      · rw [decide_eq_false e, decide_eq_false (fun z => e (Qn.key_inj z))]
    rw [ee] at zz
    exact zz
theorem call_anyB (hc : X.calm = true) : CallR X (.builtin "any") (fun xs H Q => ∃ (p : Addr) (bs : List Bool), xs = [.ref p] ∧ SqL X.K H p (bs.map V.bl) ∧ Q (.bl (bs.any id)) H) := by
  intro pins s σ H xs us Q I r h
  obtain ⟨p, bs, rfl, hq, q⟩ := h
  obtain ⟨u, rfl, ru⟩ := vals1 r
  cases ru
  obtain ⟨its, rv, pl, _⟩ := I.list hq
  have hlen := rv.length
  rw [List.length_map] at hlen
  have hb : ∀ (i : Nat) (v : Value), its[i]? = some v → v = Value.bool (bs.getD i false) := fun i v hv => by
    have hi : i < bs.length := by rw [hlen]; exact (List.getElem?_eq_some_iff.mp hv).1
    obtain ⟨w, hw, rw'⟩ := rv.get (i := i) (x := V.bl (bs.getD i false)) (by rw [List.getElem?_map, List.getElem?_eq_getElem hi]; simp [List.getD, hi])
    rw [hv] at hw
    cases hw
    exact rw'
  refine call_any_walk (wpAny_pyIter_list pl.isList ?_)
  have hne : p ≠ s.heap.objs.size := by
    obtain ⟨o, ho, _⟩ := pl.isList
    exact Nat.ne_of_lt (Heap.lt_size ho)
  refine ⟨s.heap.objs.size, _, _, its.toArray.size, _, _, fun i => bs.getD i false, rfl, Walks.list (show X.A.in1.handled = none from I.ok.hd hc) _ p hne its.toArray, ⟨⟨_, Heap.get?_push_size _ rfl, rfl, rfl⟩, pl.isList.push _⟩, fun i v s' Q' E' hv hQ => ?_, fun h' tk old => ?_⟩
  · have e := hb i v (by simpa using hv)
    subst e
    exact wpAny_truthy_bool hQ
  · have I1 : Inv X pins σ H { s with heap := h', toks := tk } := I.kept fun b o e => old b o (fun z => by
      have z' : b = s.heap.objs.size := by simpa using z
      exact absurd (Heap.lt_size e) (by rw [z']; exact Nat.lt_irrefl _)) (Heap.get?_push_of_some _ e)
    refine ⟨.bl _, H, I1, rfl, ?_⟩
    have e : (List.range its.toArray.size).any (fun i => bs.getD i false) = bs.any id := by
      rw [List.size_toArray, ← hlen, Bool.eq_iff_iff, List.any_eq_true, List.any_eq_true]
      constructor
      · rintro ⟨i, hi, hz⟩
        have hi' := List.mem_range.mp hi
        refine ⟨bs[i], List.getElem_mem hi', ?_⟩
        simpa [List.getD, hi'] using hz
      · rintro ⟨b, hb', hz⟩
        obtain ⟨i, hi, rfl⟩ := List.mem_iff_getElem.mp hb'
        exact ⟨i, List.mem_range.mpr hi, by simpa [List.getD, hi] using hz⟩
    rw [e]
    exact q
theorem call_maxI (hc : X.calm = true) : CallR X (.builtin "max") (fun xs H Q => ∃ (p : Addr) (ns : List Int), xs = [.ref p] ∧ SqL X.K H p (ns.map V.int) ∧ 0 < ns.length ∧ ∀ n, n ∈ ns → (∀ m ∈ ns, m ≤ n) → Q (.int n) H) := by
  intro pins s σ H xs us Q I r h
  obtain ⟨p, ns, rfl, hq, hpos, q⟩ := h
  obtain ⟨u, rfl, ru⟩ := vals1 r
  cases ru
  obtain ⟨its, rv, pl, _⟩ := I.list hq
  have hlen := rv.length
  rw [List.length_map] at hlen
  have hb : ∀ (i : Nat) (v : Value), its[i]? = some v → ∃ t, v = Value.int (ns.getD i 0) t := fun i v hv => by
    have hi : i < ns.length := by rw [hlen]; exact (List.getElem?_eq_some_iff.mp hv).1
    obtain ⟨w, hw, rw'⟩ := rv.get (i := i) (x := V.int (ns.getD i 0)) (by rw [List.getElem?_map, List.getElem?_eq_getElem hi]; simp [List.getD, hi])
    rw [hv] at hw
    cases hw
    exact rw'
  refine call_max_walk (wpAny_pyIter_list pl.isList ?_)
  have hne : p ≠ s.heap.objs.size := by
    obtain ⟨o, ho, _⟩ := pl.isList
    exact Nat.ne_of_lt (Heap.lt_size ho)
  refine ⟨s.heap.objs.size, [s.heap.objs.size, p], _, its.toArray.size, _, _, _, rfl, Walks.list (show X.A.in1.handled = none from I.ok.hd hc) _ p hne its.toArray, ⟨⟨_, Heap.get?_push_size _ rfl, rfl, rfl⟩, pl.isList.push _⟩, fun b hb' => ?_, by rw [List.size_toArray]; omega, CmpOf.ints_gt (fun i => ns.getD i 0) fun i v hv => hb i v (by simpa using hv), fun v h' tk hv old => ?_⟩
  · rcases List.mem_cons.mp hb' with z | z
    · rw [z, size_push']; exact Nat.lt_succ_self _
    · rw [List.mem_singleton.mp z, size_push']
      obtain ⟨o, ho, _⟩ := pl.isList
      exact Nat.lt_succ_of_lt (Heap.lt_size ho)
  · have I1 : Inv X pins σ H { s with heap := h', toks := tk } := I.kept fun b o e => old b o (fun z => by
      have z' : b = s.heap.objs.size := by simpa using z
      exact absurd (Heap.lt_size e) (by rw [z']; exact Nat.lt_irrefl _)) (Heap.get?_push_of_some _ e)
    obtain ⟨g1, g2⟩ := argBest_gt (fun i => ns.getD i 0) (its.toArray.size - 1)
    have hv2 : its[argBest (fun i j => decide (ns.getD i 0 > ns.getD j 0)) (its.toArray.size - 1)]? = some v := by rw [← List.getElem?_toArray]; exact hv
    obtain ⟨t, rfl⟩ := hb _ v hv2
    rw [List.size_toArray] at g1 g2
    refine ⟨.int _, H, I1, ⟨t, rfl⟩, q _ ?_ fun m hm => ?_⟩
    · rw [List.size_toArray]
      have hi : argBest (fun i j => decide (ns.getD i 0 > ns.getD j 0)) (its.length - 1) < ns.length := by omega
      rw [List.getD_eq_getElem?_getD, List.getElem?_eq_getElem hi]
      exact List.getElem_mem hi
    · obtain ⟨j, hj, rfl⟩ := List.mem_iff_getElem.mp hm
      have z := g2 j (by omega)
      rw [List.size_toArray]
      have e0 : ns.getD j 0 = ns[j] := by simp [List.getD, hj]
      rw [← e0]
      exact z
end
end ST
set_option Elab.async false
set_option linter.all false
set_option maxRecDepth 100000
set_option maxHeartbeats 4000000
namespace ST
variable [TN]
open PySem PySem.Spec PyProof.Rows L2
theorem hu2_of {A : Around} {k : Nat} (hr : Room k A) : A.units + 2 < cLine := Nat.lt_of_le_of_lt (Nat.add_le_add_left (by decide : 2 ≤ 64) _) hr.units
section
variable {X : Cx} {P : Program} {w : World}
theorem op_qnotinC (hP : X.prog = P) (hw : X.w = w) (hu : X.A.units + 2 < cLine) : OpR X (compareOp .NotIn) (fun x y H Q => rInQ P w true x y H Q ∨ rNoneQ P w x y H Q) := by subst hP hw; exact op_qnotin2 hu
theorem op_qinC (hP : X.prog = P) (hw : X.w = w) (hu : X.A.units + 2 < cLine) : OpR X (compareOp .In) (rInQ P w false) := by subst hP hw; exact op_qin hu
theorem pe_qgetC {o i : Expr} {pos : Pos} {td ty : TE} (hP : X.prog = P) (hw : X.w = w) (hu : X.A.units + 2 < cLine) (ho : PE X o td) (hi : PE X i ty) (hs : NoSl i) : PE X (.Subscript o i pos) (tQGet P w td ty) := by subst hP hw; exact pe_qget hu ho hi hs
theorem call_lenQC (hP : X.prog = P) (hw : X.w = w) : CallR X (.builtin "len") (fun xs H Q => ∃ a kvs, xs = [.ref a] ∧ QD P w H a kvs ∧ Q (.int kvs.length) H) := by subst hP hw; exact call_lenQ
theorem ix_tupC {K : PySem.W.Frag} (hK : X.K = K) : IxR X (rIxT K) := by subst hK; exact ix_tup
theorem ix_listC {K : PySem.W.Frag} (hK : X.K = K) : IxR X (rIxL K) := by subst hK; exact ix_list
theorem call_lenC {K : PySem.W.Frag} (hK : X.K = K) : CallR X (.builtin "len") (fun xs H Q => ∃ p ys, xs = [.ref p] ∧ (SqL K H p ys ∨ SqT K H p ys) ∧ Q (.int ys.length) H) := by subst hK; exact call_len_seq
end
section
variable {α β : Type} {F G : α → β → Prop}
theorem prd_len {xs : List α} {ys : List β} (r : Paired F xs ys) : xs.length = ys.length := Paired.length r
theorem prd_get {xs : List α} {ys : List β} (r : Paired F xs ys) : ∀ {i : Nat} {x : α}, xs[i]? = some x → ∃ y, ys[i]? = some y ∧ F x y := by
  induction r with
  | nil => intro i x h; simp at h
  | cons h t ih =>
    intro i x hx
    cases i with
    | zero =>
      cases (show some _ = some x by simpa using hx)
      exact ⟨_, rfl, h⟩
    | succ i => exact ih (i := i) (by simpa using hx)
theorem prd_at {xs : List α} {ys : List β} (r : Paired F xs ys) {i : Nat} {y : β} (h : ys[i]? = some y) : ∃ x, xs[i]? = some x ∧ F x y := by
  obtain ⟨x, hx⟩ : ∃ x, xs[i]? = some x := ⟨_, List.getElem?_eq_getElem (by rw [prd_len r]; exact (List.getElem?_eq_some_iff.mp h).1)⟩
  obtain ⟨y', hy', f⟩ := prd_get r hx
  rw [h] at hy'
  cases hy'
  exact ⟨x, hx, f⟩
theorem prd_app {xs xs' : List α} {ys ys' : List β} (r : Paired F xs ys) (r' : Paired F xs' ys') : Paired F (xs ++ xs') (ys ++ ys') := by
  induction r with
  | nil => exact r'
  | cons h _ ih => exact .cons h ih
theorem prd_imp {xs : List α} {ys : List β} (r : Paired F xs ys) (f : ∀ a b, F a b → G a b) : Paired G xs ys := Paired.mapP r f
theorem prd_take {xs : List α} {ys : List β} (r : Paired F xs ys) : ∀ i : Nat, Paired F (xs.take i) (ys.take i) := by
  induction r with
  | nil => intro i; rw [List.take_nil, List.take_nil]; exact .nil
  | cons h _ ih =>
    intro i
    cases i with
    | zero => exact .nil
    | succ i => exact .cons h (ih i)
theorem prd_drop {xs : List α} {ys : List β} (r : Paired F xs ys) : ∀ i : Nat, Paired F (xs.drop i) (ys.drop i) := by
  induction r with
  | nil => intro i; rw [List.drop_nil, List.drop_nil]; exact .nil
  | cons h t ih =>
    intro i
    cases i with
    | zero => exact .cons h t
    | succ i => exact ih i
end
noncomputable def At.v : At → V
  | .int i => .int i
  | .str x => .str x
noncomputable def nv (ns : Needs) : List (Qn × V) := ns.map fun n => (n.1, n.2.v)
theorem nv_val (ns : Needs) (q : Qn) : valV (nv ns) q = (look ns q).map At.v := by
  induction ns with
  | nil => rfl
  | cons n t ih =>
    show valV ((n.1, n.2.v) :: nv t) q = _
    by_cases e : n.1 = q
    · rw [valV_pos (p := (n.1, n.2.v)) e]
      simp [look, List.find?_cons, e]
    · rw [valV_neg (p := (n.1, n.2.v)) e, ih]
      simp [look, List.find?_cons, e]
theorem nv_some {ns : Needs} {q : Qn} : (valV (nv ns) q).isSome = decide (q ∈ nkeys ns) := by
  rw [nv_val, Option.isSome_map]
  by_cases h : q ∈ nkeys ns
  · obtain ⟨a, ha⟩ := look_some h
    rw [ha, decide_eq_true h]; rfl
  · rw [look_none.mpr h, decide_eq_false h]; rfl
noncomputable abbrev Qs (H : Hp) : List V → List Qn → Prop := Paired (QIs H)
theorem Qs.mono {H H' : Hp} (g : Same H H') {ys : List V} {qs : List Qn} (h : Qs H ys qs) : Qs H' ys qs := prd_imp h fun _ _ z => z.mono g
noncomputable def NsIs (P : Program) (w : World) (H : Hp) (v : V) (ns : Needs) : Prop := ∃ d, v = .ref d ∧ QD P w H d (nv ns)
theorem NsIs.mono {P : Program} {w : World} {H H' : Hp} (g : Same H H') {v : V} {ns : Needs} (h : NsIs P w H v ns) : NsIs P w H' v ns := by
  obtain ⟨d, e, q⟩ := h
  exact ⟨d, e, q.mono g⟩
noncomputable def RwIs (P : Program) (w : World) (H : Hp) (v : V) (r : Rw) : Prop := ∃ p nd l ys, v = .ref p ∧ H p = some (.tup [.int r.num, nd, .ref l]) ∧ NsIs P w H nd r.ns ∧ H l = some (.lst ys) ∧ Qs H ys r.qs
theorem RwIs.mono {P : Program} {w : World} {H H' : Hp} (g : Same H H') {v : V} {r : Rw} (h : RwIs P w H v r) : RwIs P w H' v r := by
  obtain ⟨p, nd, l, ys, e, h1, h2, h3, h4⟩ := h
  exact ⟨p, nd, l, ys, e, g _ _ h1, h2.mono g, g _ _ h3, h4.mono g⟩
noncomputable abbrev Rws (P : Program) (w : World) (H : Hp) : List V → List Rw → Prop := Paired (RwIs P w H)
theorem Rws.mono {P : Program} {w : World} {H H' : Hp} (g : Same H H') {ys : List V} {rs : List Rw} (h : Rws P w H ys rs) : Rws P w H' ys rs := prd_imp h fun _ _ z => z.mono g
noncomputable abbrev Nss (P : Program) (w : World) (H : Hp) : List V → List Needs → Prop := Paired (NsIs P w H)
theorem Nss.mono {P : Program} {w : World} {H H' : Hp} (g : Same H H') {ys : List V} {rs : List Needs} (h : Nss P w H ys rs) : Nss P w H' ys rs := prd_imp h fun _ _ z => z.mono g
theorem nv_prj {xs : List (Qn × Addr × V)} {ns : Needs} (h : nv ns = prj xs) : xs.length = ns.length ∧ ∀ (i : Nat) (e : Qn × Addr × V), xs[i]? = some e → ∃ n, ns[i]? = some n ∧ e.1 = n.1 ∧ e.2.2 = n.2.v := by
  have hl := congrArg List.length h
  unfold nv prj at hl
  rw [List.length_map, List.length_map] at hl
  refine ⟨hl.symm, fun i e he => ?_⟩
  obtain ⟨n, hn⟩ : ∃ n, ns[i]? = some n := ⟨_, List.getElem?_eq_getElem (by rw [hl]; exact (List.getElem?_eq_some_iff.mp he).1)⟩
  have z : (nv ns)[i]? = (prj xs)[i]? := by rw [h]
  unfold nv prj at z
  rw [List.getElem?_map, List.getElem?_map, hn, he] at z
  have z' := Option.some.inj z
  exact ⟨n, hn, (Prod.mk.inj z').1.symm, (Prod.mk.inj z').2.symm⟩
theorem nv_put {ns : Needs} {q : Qn} {a : At} (h : q ∉ nkeys ns) : putK (nv ns) q a.v = nv (ns ++ [(q, a)]) := by
  rw [putK_new _ (by rw [nv_val, look_none.mpr h]; rfl)]
  simp [nv]
theorem qd_put {P : Program} {w : World} {H : Hp} {d b : Addr} {ep ep' : Nat} {xs : List (Qn × Addr × V)} {ns : Needs} {q : Qn} {a : At} (e : H d = some (dQ P w d ep xs)) (r : nv ns = prj xs) (k : ∀ x ∈ xs, QIs H (.ref x.2.1) x.1) (kb : QIs H (.ref b) q) (hn : q ∉ nkeys ns) :
    QD P w (upd H d (dQ P w d ep' (putQ xs q b a.v))) d (nv (ns ++ [(q, a)])) := by
  refine ⟨ep', _, upd_same, by rw [prj_put, ← r, nv_put hn], fun x hx => ?_⟩
  have tk := tk_dQ e (dQ P w d ep' (putQ xs q b a.v))
  rcases putQ_mem hx with ⟨y, hy, h1, h2⟩ | rfl
  · rw [h1, h2]; exact (k y hy).tk tk
  · exact kb.tk tk
end ST
set_option Elab.async false
set_option linter.all false
set_option maxRecDepth 100000
set_option maxHeartbeats 4000000
namespace ST
variable [TN]
open PySem L2
noncomputable def spAhead : Sp := fun vs H Q _ => ∃ v q, vs = [v] ∧ QIs H v q ∧ ∀ r H', Same H H' → ((r = .non ∧ ahead q = none) ∨ ∃ a, ahead q = some a ∧ QIs H' r a) → Q r H'
noncomputable def spBehind : Sp := fun vs H Q _ => ∃ v p k, vs = [v, .str (Kd.word k)] ∧ QIs H v (.k p) ∧ p.length ≤ 100 ∧ ∀ l ys H', Same H H' → H l = none → H' l = some (.lst ys) → Qs H' ys (behind (.k p) k.at) → Q (.ref l) H'
theorem lenOk2 {n : Nat} (h : n ≤ 1000) : n ≤ sizeLine := Nat.le_of_lt (small1000 h)
theorem dKS : decide (V.str "kind" = V.str "same") = false := by decide +kernel
theorem dSS : decide (V.str "same" = V.str "same") = true := by decide +kernel
theorem cut_last (p : List Bool) (h : p ≠ []) : cutV (p.map bit) none (some (-1)) = p.dropLast.map bit := by
  unfold cutV
  rw [HT.sIx_none, List.drop_zero, Nat.sub_zero, List.length_map]
  have hpos : 0 < p.length := List.length_pos_iff.mpr h
  have e : HT.sIx p.length p.length (some (-1)) = p.length - 1 := by
    have z := HT.clip_eq (-1) p.length p.length
    rw [if_pos (by decide)] at z
    omega
  rw [e, ← List.map_take, List.dropLast_eq_take]
seal L2.PE L2.PA L2.PS L2.PSs L2.PT L2.PW L2.PG L2.PGs L2.PI
section
variable {P : Program} {w : World} {K : PySem.W.Frag} {mg : Str → Option Value} {base : Heap}
theorem sc_kind_of : FnScope ["value"] ["value"] (defScope sKind) := ⟨rfl, rfl, rfl, by decide +kernel, rfl, by decide +kernel, by decide +kernel⟩
theorem ok_kind_of (FN : FunAt K mg "kind_of" sKind ["value"]) (B : Blt mg) : Callee P w K mg base 1 "kind_of" ["value"] spKind := by
  refine FN.ok sc_kind_of (fun vs H Q E h => ?_) (fun f cdv A outer s H vs Q E hr h => ?_)
  · obtain ⟨v, x, rfl, _⟩ := h
    rfl
  obtain ⟨v, x, rfl, hv, q⟩ := h
  refine ⟨_, ((pss_cons (ps_if (pt_val (pe_callB call_inst rfl B.isinstance_ PyProof.Rows.boot_isinstance (pa_cons (pv 0) (pa_cons (pe_bltn (v := .ty "int") rfl B.int_ PyProof.Rows.boot_int rfl) pa_nil))))
      (pss_one (ps_ret pe_str)) pss_nil)
    (pss_cons (ps_if (pt_val (pe_callB call_inst rfl B.isinstance_ PyProof.Rows.boot_isinstance (pa_cons (pv 0) (pa_cons (pe_bltn (v := .ty "str") rfl B.str_ PyProof.Rows.boot_str rfl) pa_nil))))
      (pss_one (ps_ret pe_str)) pss_nil)
    (pss_one (ps_ret pe_str))))), ?_⟩
  cases x with
  | int i =>
    cases is_int hv
    exact ⟨_, rfl, _, _, _, _, rfl, .int i, kit_same K "int", _, rfl, iteT' rfl (q H (Same.refl H))⟩
  | str z =>
    cases is_str hv
    refine ⟨_, rfl, _, _, _, _, rfl, .str z, kit_str_int K, _, rfl, iteF' rfl ?_⟩
    exact ⟨_, rfl, _, _, _, _, rfl, .str z, kit_same K "str", _, rfl, iteT' rfl (q H (Same.refl H))⟩
  | pr a b =>
    obtain ⟨p, u, z, rfl, e, _, _⟩ := is_t2 hv
    refine ⟨_, rfl, _, _, _, _, rfl, .tup e, kit_tup_int K, _, rfl, iteF' rfl ?_⟩
    exact ⟨_, rfl, _, _, _, _, rfl, .tup e, kit_tup_str K, _, rfl, iteF' rfl (q H (Same.refl H))⟩
theorem sc_question_ahead : FnScope ["question", "place"] ["question"] (defScope s_question_ahead) := ⟨rfl, rfl, rfl, by decide +kernel, rfl, by decide +kernel, by decide +kernel⟩
theorem ok_ahead (FN : FunAt K mg "question_ahead" s_question_ahead ["question"]) (B : Blt mg) : Callee P w K mg base 1 "question_ahead" ["question"] spAhead := by
  refine FN.ok sc_question_ahead (fun vs H Q E h => ?_) (fun f cdv A outer s H vs Q E hr h => ?_)
  · obtain ⟨v, q0, rfl, _⟩ := h
    rfl
  obtain ⟨v, q0, rfl, ⟨a, b, rfl, h1, h2⟩, q⟩ := h
  refine ⟨_, ((pss_cons (ps_set (i := 1) sc_question_ahead.nd rfl (Or.inl rfl) (pe_ix ix_tup (pv 0) pe_int (fun _ _ => rfl)))
    (pss_cons (ps_if (pt_cmpR op_eq (pe_ix ix_tup (pv 0) pe_int (fun _ _ => rfl)) pe_str (nomark _))
      (pss_one (ps_ret (pe_tup (pa_cons pe_str (pa_cons (pv 1) pa_nil))))) pss_nil)
    (pss_one (ps_ret (pe_ifExp (pt_truth (pv 1) (fun _ => rfl)) (pe_tup (pa_cons pe_str (pa_cons (pe_slice sl_tup (pv 1) po_none (po_some (pe_un un_neg pe_int))) pa_nil))) pe_non)))))), ?_⟩
  refine ⟨_, rfl, a, _, _, _, rfl, rfl, SqT.of h1, rfl, ?_⟩
  refine ⟨_, rfl, a, _, _, _, rfl, rfl, SqT.of h1, rfl, ?_⟩
  cases q0 with
  | s p =>
    refine ⟨rfl, _, rfl, iteT' dSS ?_⟩
    refine ⟨_, rfl, lenOk rfl, fun l hl => ?_⟩
    have g := same_new hl (.tup [V.str "kind", V.ref b])
    exact q _ _ g (.inr ⟨.k p, rfl, l, b, rfl, upd_same, g _ _ h2⟩)
  | k p =>
    refine ⟨rfl, _, rfl, iteF' dKS ?_⟩
    have h2 : H b = some (.tup (p.map bit)) := h2
    refine ⟨_, rfl, !(p.map bit).isEmpty, .inr (.inl ⟨_, SqT.of h2, rfl⟩), ?_⟩
    cases p with
    | nil => exact iteF' rfl (q _ _ (Same.refl H) (.inl ⟨rfl, rfl⟩))
    | cons c t =>
      have hlen : ((c :: t).map bit).length = t.length + 1 := by simp
      refine iteT' rfl ⟨_, rfl, _, rfl, _, rfl, b, _, rfl, SqT.of h2, ?_, fun l hl => ⟨lenOk rfl, fun m hm => ?_⟩⟩
      · intro z
        have e := HT.clip_eq (-1) ((c :: t).map bit).length ((c :: t).map bit).length
        rw [if_pos (by decide)] at e
        have := z.2
        omega
      · have g := (same_new hl (.tup (cutV ((c :: t).map bit) none (some (-1))))).trans (same_new hm (.tup [V.str "kind", V.ref l]))
        refine q _ _ g (.inr ⟨.k (c :: t).dropLast, by rw [ahead_k, if_neg (by simp)], m, l, rfl, upd_same, ?_⟩)
        rw [(same_new hm _) _ _ upd_same, cut_last _ (by simp)]
        rfl
theorem sc_questions_behind : FnScope ["question", "answer", "place"] ["question", "answer"] (defScope s_questions_behind) := ⟨rfl, rfl, rfl, by decide +kernel, rfl, by decide +kernel, by decide +kernel⟩
theorem ok_behind (FN : FunAt K mg "questions_behind" s_questions_behind ["question", "answer"]) (B : Blt mg) : Callee P w K mg base 1 "questions_behind" ["question", "answer"] spBehind := by
  refine FN.ok sc_questions_behind (fun vs H Q E h => ?_) (fun f cdv A outer s H vs Q E hr h => ?_)
  · obtain ⟨v, p, k, rfl, _⟩ := h
    rfl
  obtain ⟨v, p, k, rfl, ⟨a, b, rfl, h1, h2⟩, hp, q⟩ := h
  have h2 : H b = some (.tup (p.map bit)) := h2
  refine ⟨_, ((pss_cons (ps_set (i := 2) sc_questions_behind.nd rfl (Or.inl rfl) (pe_ix ix_tup (pv 0) pe_int (fun _ _ => rfl)))
    (pss_cons (ps_if (pt_cmpR op_eq (pe_ix ix_tup (pv 0) pe_int (fun _ _ => rfl)) pe_str (nomark _))
      (pss_one (ps_ret (pe_lst pa_nil))) pss_nil)
    (pss_cons (ps_if (pt_cmpR op_eq (pv 1) pe_str (nomark _))
      (pss_one (ps_ret (pe_lst (pa_cons (pe_tup (pa_cons pe_str (pa_cons (pe_op op_plus (pv 2) (pe_tup (pa_cons pe_int pa_nil))) pa_nil))) (pa_cons (pe_tup (pa_cons pe_str (pa_cons (pe_op op_plus (pv 2) (pe_tup (pa_cons pe_int pa_nil))) pa_nil))) pa_nil))))) pss_nil)
    (pss_one (ps_ret (pe_lst (pa_cons (pe_tup (pa_cons pe_str (pa_cons (pv 2) pa_nil))) pa_nil)))))))), ?_⟩
  refine ⟨_, rfl, a, _, _, _, rfl, rfl, SqT.of h1, rfl, ?_⟩
  refine ⟨_, rfl, a, _, _, _, rfl, rfl, SqT.of h1, rfl, ?_⟩
  refine ⟨rfl, _, rfl, iteF' dKS ?_⟩
  refine ⟨_, rfl, rfl, _, rfl, ?_⟩
  rw [dec_wordP]
  have lenP : (p.map bit).length = p.length := List.length_map _
  have plus : ∀ {H1 : Hp} {R : VK} (c : Bool), Same H H1 → (∀ x H2, Same H1 H2 → (∃ m, x = .ref m ∧ H2 m = some (.tup ((p ++ [c]).map bit))) → R x H2) → ∀ z, H1 z = none → rPlus K (.ref b) (.ref z) (upd H1 z (.tup [.int (bitI c)])) R := fun {H1 R} c g1 hR z hz => by
    have gz := same_new hz (.tup [V.int (bitI c)])
    refine ⟨b, z, _, _, rfl, rfl, SqT.of (gz _ _ (g1 _ _ h2)), SqT.of upd_same, by simp, lenOk2 (by rw [lenP]; simp; omega), fun hx => ?_, fun hx m hm => ?_⟩
    · have hp0 : p = [] := List.map_eq_nil_iff.mp hx
      subst hp0
      exact hR _ _ gz ⟨z, rfl, upd_same⟩
    · refine hR _ _ (gz.trans (same_new hm _)) ⟨m, rfl, ?_⟩
      rw [upd_same, List.map_append]
      rfl
  by_cases hk : k = .p
  · subst hk
    refine iteT' (decide_eq_true rfl) ?_
    refine ⟨_, rfl, lenOk rfl, fun z0 hz0 => plus false (Same.refl H) (fun x0 H2 g2 ⟨m0, e0, hm0⟩ => ?_) z0 hz0⟩
    subst e0
    refine ⟨lenOk rfl, fun t0 ht0 => ?_⟩
    have g3 := g2.trans (same_new ht0 (.tup [V.str "kind", V.ref m0]))
    refine ⟨_, rfl, lenOk rfl, fun z1 hz1 => plus true g3 (fun x1 H4 g4 ⟨m1, e1, hm1⟩ => ?_) z1 hz1⟩
    subst e1
    refine ⟨lenOk rfl, fun t1 ht1 => ?_⟩
    have g5 := g4.trans (same_new ht1 (.tup [V.str "kind", V.ref m1]))
    refine ⟨lenOk rfl, fun l hl => ?_⟩
    have g6 := same_new hl (.lst [V.ref t0, V.ref t1])
    refine q l _ _ (g3.trans (g5.trans g6)) ((g3.trans g5).free hl) upd_same ?_
    rw [behind_k, if_pos rfl]
    refine .cons ⟨t0, m0, rfl, g6 _ _ (g5 _ _ upd_same), g6 _ _ (g5 _ _ ((same_new ht0 _) _ _ hm0))⟩ (.cons ⟨t1, m1, rfl, g6 _ _ upd_same, g6 _ _ ((same_new ht1 _) _ _ hm1)⟩ .nil)
  · refine iteF' (decide_eq_false hk) ?_
    refine ⟨_, rfl, lenOk rfl, fun t0 ht0 => ⟨lenOk rfl, fun l hl => ?_⟩⟩
    have g3 := same_new ht0 (.tup [V.str "same", V.ref b])
    have g6 := same_new hl (.lst [V.ref t0])
    refine q l _ _ (g3.trans g6) (g3.free hl) upd_same ?_
    rw [behind_k, if_neg (fun z => hk (at_inj z))]
    exact .cons ⟨t0, b, rfl, g6 _ _ upd_same, g6 _ _ (g3 _ _ h2)⟩ .nil
end
end ST
set_option Elab.async false
set_option linter.all false
set_option maxRecDepth 100000
set_option maxHeartbeats 4000000
namespace ST
variable [TN]
open PySem L2
section
variable (P : Program) (w : World)
noncomputable def spRowOn : Sp := fun vs H Q _ => ∃ (n : Nat) (v : V) (ns : Needs), vs = [.int n, v] ∧ NsIs P w H v ns ∧ ns.length ≤ 1000 ∧ ∀ r H', Same H H' → RwIs P w H' r (rowOn n ns) → Q r H'
noncomputable def spUpTo : Sp := fun vs H Q _ => ∃ (l : Addr) (ys : List V) (rs : List Rw), vs = [.ref l] ∧ H l = some (.lst ys) ∧ Rws P w H ys rs ∧ rs.length ≤ 1000 ∧ ∀ l' ys' H', Same H H' → H l' = none → H' l' = some (.lst ys') → Rws P w H' ys' (upTo rs) → Q (.ref l') H'
end
theorem free_some {ns : Needs} {q a : Qn} (h : ahead q = some a) : free ns q = decide (a ∉ nkeys ns) := by unfold free; rw [h]
theorem free_none {ns : Needs} {q : Qn} (h : ahead q = none) : free ns q = true := by unfold free; rw [h]
theorem nkeys_len (ns : Needs) : (nkeys ns).length = ns.length := List.length_map _
seal L2.PE L2.PA L2.PS L2.PSs L2.PT L2.PW L2.PG L2.PGs L2.PI
section
variable {P : Program} {w : World} {K : PySem.W.Frag} {mg : Str → Option Value} {base : Heap}
theorem sc_row_on_road : FnScope ["number", "needs"] ["number", "needs"] (defScope s_row_on_road) := ⟨rfl, rfl, rfl, by decide +kernel, rfl, by decide +kernel, by decide +kernel⟩
theorem ok_rowOn (FN : FunAt K mg "row_on_road" s_row_on_road ["number", "needs"]) (B : Blt mg) (c_question_ahead : Callee P w K mg base 1 "question_ahead" ["question"] spAhead) : Callee P w K mg base 2 "row_on_road" ["number", "needs"] (spRowOn P w) := by
  refine FN.ok sc_row_on_road (fun vs H Q E h => ?_) (fun f cdv A outer s H vs Q E hr h => ?_)
  · obtain ⟨n, v, ns, rfl, _⟩ := h
    rfl
  obtain ⟨n, v, ns, rfl, ⟨d, rfl, ep, xs, hd, hx, hk⟩, hn, q⟩ := h
  obtain ⟨hl, hat⟩ := nv_prj hx
  refine ⟨_, ((pss_one (ps_ret (pe_tup (pa_cons (pv 0) (pa_cons (pv 1) (pa_cons (pe_lcompIS rfl (pi_q (pv 1)) (cloS_of (defScope s_row_on_road).names ["number", "needs"] rfl rfl (by decide +kernel) rfl) (fun cl C s₀ H₀ ex => pifs_one (pt_cmpR (op_qnotinC (P := P) (w := w) rfl rfl (hu2_of hr)) (pe_callC c_question_ahead hr rfl (pa_cons (pv 0) pa_nil)) (pv 2) (by with_unfolding_all rfl))) (fun cl C s₀ H₀ ex => (pv 0))) pa_nil))))))), ?_⟩
  refine ⟨_, rfl, _, rfl, _, rfl, d, ep, xs, rfl, hd, comp_n itn_q (fun i ys H' => Same H H' ∧ Qs H' ys (((nkeys ns).take i).filter (free ns))) (le_line (by omega)) ⟨Same.refl H, .nil⟩ (fun i ys H' _ z => z.1 _ _ hd) (fun i x ys H' NB NY hi hy z k0 k1 => ?_) (fun ys H' z hy l hlf => ?_)⟩
  · obtain ⟨e, he, rfl⟩ := hy
    obtain ⟨n', hn', e1, e2⟩ := hat i e he
    have hkey : (nkeys ns)[i]? = some e.1 := by unfold nkeys; rw [List.getElem?_map, hn', e1]; rfl
    have kq := hk e (List.mem_of_getElem? he)
    have et : (nkeys ns).take (i + 1) = (nkeys ns).take i ++ [e.1] := by rw [List.take_add_one, hkey]; rfl
    refine ⟨_, rfl, .ref e.2.1, e.1, rfl, kq.mono z.1, fun r H2 g2 hr2 => ?_⟩
    have gA := z.1.trans g2
    have fin : ∀ b : Bool, free ns e.1 = b → (if b = true then tVar 0 (some (V.ref e.2.1) :: L2.start ["number", "needs"] [V.int n, V.ref d]) H2 NY else NB H2) := fun b hb => by
      cases b with
      | true =>
        refine iteT' rfl ⟨_, rfl, k1 _ _ ⟨gA, ?_⟩⟩
        rw [et, List.filter_append]
        have : [e.1].filter (free ns) = [e.1] := by rw [List.filter_cons, if_pos hb]; rfl
        rw [this]
        exact prd_app (Qs.mono g2 z.2) (.cons (kq.mono gA) .nil)
      | false =>
        refine iteF' rfl (k0 _ ⟨gA, ?_⟩)
        rw [et, List.filter_append]
        have : [e.1].filter (free ns) = [] := by rw [List.filter_cons, if_neg (by rw [hb]; exact Bool.false_ne_true)]; rfl
        rw [this, List.append_nil]
        exact Qs.mono g2 z.2
    rcases hr2 with ⟨rfl, ha⟩ | ⟨a, ha, ka⟩
    · refine ⟨_, rfl, .inr ⟨d, nv ns, rfl, ⟨ep, xs, gA _ _ hd, hx, fun x hx' => (hk x hx').mono gA⟩, rfl, _, rfl, ?_⟩⟩
      exact fin true (free_none ha)
    · refine ⟨_, rfl, .inl ⟨d, nv ns, a, rfl, ⟨ep, xs, gA _ _ hd, hx, fun x hx' => (hk x hx').mono gA⟩, ka, _, rfl, ?_⟩⟩
      rw [nv_some]
      refine fin _ ?_
      rw [free_some ha]
      by_cases hm : a ∈ nkeys ns
      · rw [decide_eq_true hm, decide_eq_false (fun z => z hm)]; rfl
      · rw [decide_eq_false hm, decide_eq_true hm]; rfl
  · have g := z.1.trans (same_new hlf (.lst ys))
    refine ⟨lenOk rfl, fun p hp => ?_⟩
    have g2 := same_new hp (.tup [V.int n, V.ref d, V.ref l])
    have hz := z.2
    rw [List.take_of_length_le (by rw [nkeys_len, hl]; exact Nat.le_refl _)] at hz
    exact q _ _ (g.trans g2) ⟨p, .ref d, l, ys, rfl, upd_same, ⟨d, rfl, ep, xs, g2 _ _ (g _ _ hd), hx, fun x hx' => (hk x hx').mono (g.trans g2)⟩, g2 _ _ upd_same, Qs.mono (((same_new hlf (.lst ys))).trans g2) hz⟩
end
end ST
set_option Elab.async false
set_option linter.all false
set_option maxRecDepth 100000
set_option maxHeartbeats 4000000
namespace ST
variable [TN]
open PySem L2
noncomputable def hide (l : Addr) (H : Hp) : Hp := fun b => if b = l then none else H b
theorem hide_ne {l b : Addr} {H : Hp} (h : b ≠ l) : hide l H b = H b := if_neg h
theorem hide_same {l : Addr} {H : Hp} : hide l H l = none := if_pos rfl
theorem hide_upd {l : Addr} {H : Hp} {o : HO} : hide l (upd H l o) = hide l H := by
  funext b
  by_cases h : b = l
  · rw [h, hide_same, hide_same]
  · rw [hide_ne h, hide_ne h, upd_ne h]
noncomputable abbrev Go (H H' : Hp) : Prop := ∀ b o, [NT o] → H b = some o → H' b = some o
theorem go_unhide {l : Addr} {H : Hp} : Go (hide l H) H := fun b o _ e => by
  by_cases h : b = l
  · rw [h, hide_same] at e; cases e
  · rw [hide_ne h] at e; exact e
theorem go_hide {l : Addr} {H H' : Hp} (g : Go H H') : Go (hide l H) (hide l H') := fun b o _ e => by
  by_cases h : b = l
  · rw [h, hide_same] at e; cases e
  · rw [hide_ne h] at e ⊢; exact g b o e
theorem go_in {l : Addr} {H H' : Hp} (hl : H l = none) (g : Go H H') : Go H (hide l H') := fun b o _ e => by
  rw [hide_ne (ne_of_none e hl)]; exact g b o e
section
variable {P : Program} {w : World} {H H' : Hp}
theorem QIs.go (g : Go H H') {v : V} {q : Qn} (h : QIs H v q) : QIs H' v q := h.tk fun b xs e => g b _ e
theorem Qs.go (g : Go H H') {ys : List V} {qs : List Qn} (h : Qs H ys qs) : Qs H' ys qs := prd_imp h fun _ _ z => z.go g
theorem QD.go (g : Go H H') {a : Addr} {kvs : List (Qn × V)} (h : QD P w H a kvs) : QD P w H' a kvs := by
  obtain ⟨ep, xs, e, r, k⟩ := h
  exact ⟨ep, xs, g _ _ e, r, fun x hx => (k x hx).go g⟩
theorem NsIs.go (g : Go H H') {v : V} {ns : Needs} (h : NsIs P w H v ns) : NsIs P w H' v ns := by
  obtain ⟨d, e, q⟩ := h
  exact ⟨d, e, q.go g⟩
theorem RwIs.go (g : Go H H') {v : V} {r : Rw} (h : RwIs P w H v r) : RwIs P w H' v r := by
  obtain ⟨p, nd, l, ys, e, h1, h2, h3, h4⟩ := h
  exact ⟨p, nd, l, ys, e, g _ _ h1, h2.go g, g _ _ h3, h4.go g⟩
theorem Rws.go (g : Go H H') {ys : List V} {rs : List Rw} (h : Rws P w H ys rs) : Rws P w H' ys rs := prd_imp h fun _ _ z => z.go g
theorem hide_l {l b : Addr} {ls : List V} {o : HO} (hl : H l = some (.lst ls)) (hb : H b = some o) (hn : ∀ zs, o ≠ .lst zs) : hide l H b = some o := by
  rw [hide_ne (fun z => by rw [z, hl] at hb; exact hn _ (Option.some.inj hb).symm)]; exact hb
theorem QIs.hid {l : Addr} {ls : List V} (hl : H l = some (.lst ls)) {v : V} {q : Qn} (h : QIs H v q) : QIs (hide l H) v q := h.tk fun b xs e => hide_l hl e (fun _ z => nomatch z)
theorem NsIs.hid {l : Addr} {ls : List V} (hl : H l = some (.lst ls)) {v : V} {ns : Needs} (h : NsIs P w H v ns) : NsIs P w (hide l H) v ns := by
  obtain ⟨d, e, ep, xs, e1, r, k⟩ := h
  exact ⟨d, e, ep, xs, hide_l hl e1 (fun _ z => nomatch (show HO.ext _ = HO.lst _ from z)), r, fun x hx => (k x hx).hid hl⟩
end
section
variable (P : Program) (w : World)
noncomputable def RwNew (H H' : Hp) (v : V) (r : Rw) : Prop := ∃ p nd l ys, v = .ref p ∧ H' p = some (.tup [.int r.num, nd, .ref l]) ∧ NsIs P w H' nd r.ns ∧ H l = none ∧ H' l = some (.lst ys) ∧ Qs H' ys r.qs
noncomputable def Few (ns : Needs) : Prop := ns.length ≤ 40 ∧ (nkeys ns).Nodup ∧ ∀ n ∈ ns, ∃ p k, n = (Qn.k p, Kd.at k) ∧ p.length ≤ 3
noncomputable def spRowAfter : Sp := fun vs H Q _ => ∃ (v vq : V) (k : Kd) (r : Rw) (p : List Bool), vs = [v, vq, .str (Kd.word k)] ∧ RwIs P w H v r ∧ QIs H vq (.k p) ∧ Few r.ns ∧ r.qs.length ≤ 100 ∧ Qn.k p ∈ r.qs ∧ (Qn.k p, k.at) ∈ r.ns ∧ ∀ x H', Same H H' → RwNew P w H H' x (rowAfter r (.k p) k.at) → Q x H'
noncomputable def Rds (rs : List Rw) : Prop := rs.length ≤ 100 ∧ ∀ r ∈ rs, Few r.ns ∧ r.qs.length ≤ 100
noncomputable def spRowsAfter : Sp := fun vs H Q _ => ∃ (l : Addr) (ys : List V) (rs : List Rw) (vq : V) (k : Kd) (p : List Bool), vs = [.ref l, vq, .str (Kd.word k)] ∧ H l = some (.lst ys) ∧ Rws P w H ys rs ∧ Rds rs ∧ QIs H vq (.k p) ∧ p.length ≤ 100 ∧ (∀ r ∈ rs, Qn.k p ∈ nkeys r.ns → Qn.k p ∈ r.qs) ∧
  ∀ l' ys' H', Same H H' → H l' = none → H' l' = some (.lst ys') → Rws P w H' ys' (rowsAfter rs (.k p) k.at) → Q (.ref l') H'
noncomputable def Aparts : Prop := ∀ xs : List (Qn × Addr × V), (xs.map (·.1)).Nodup → (∀ x ∈ xs, ∃ p, x.1 = Qn.k p ∧ p.length ≤ 3) → Apart P w xs
end
theorem RwNew.hid {P : Program} {w : World} {H H' : Hp} {v : V} {r : Rw} {l : Addr} {ls ls' : List V} (hl : H l = some (.lst ls)) (hl' : H' l = some (.lst ls')) (h : RwNew P w H H' v r) : RwIs P w (hide l H') v r := by
  obtain ⟨p, nd, l2, ys, e, h1, h2, hn, h3, h4⟩ := h
  refine ⟨p, nd, l2, ys, e, hide_l hl' h1 (fun _ z => nomatch z), h2.hid hl', ?_, prd_imp h4 fun _ _ z => z.hid hl'⟩
  rw [hide_ne (fun z => by rw [z, hl] at hn; cases hn)]
  exact h3
theorem nv_keys (ns : Needs) : (nv ns).map (·.1) = nkeys ns := by unfold nv nkeys; rw [List.map_map]; rfl
theorem prj_keys (xs : List (Qn × Addr × V)) : (prj xs).map (·.1) = xs.map (·.1) := by unfold prj; rw [List.map_map]; rfl
theorem idx_get {q : Qn} : ∀ {l : List Qn}, q ∈ l → l[l.idxOf q]? = some q := fun {l} h => by
  rw [List.getElem?_eq_getElem (List.idxOf_lt_length_of_mem h), List.getElem_idxOf]
theorem idx_min {q : Qn} : ∀ {l : List Qn} (m : Nat) (p : Qn), m < l.idxOf q → l[m]? = some p → p ≠ q
  | [], m, p, h, _ => by simp at h
  | x :: t, m, p, h, e => by
    by_cases c : x = q
    · subst c
      rw [List.idxOf_cons_self] at h
      exact absurd h (Nat.not_lt_zero _)
    · rw [show (x :: t).idxOf q = t.idxOf q + 1 by rw [List.idxOf_cons, beq_eq_false_iff_ne.mpr c]; rfl] at h
      cases m with
      | zero => have z : x = p := by simpa using e
                rw [← z]; exact c
      | succ m => exact idx_min (l := t) m p (by omega) (by simpa using e)
theorem nv_less (ns : Needs) (q : Qn) : nv (less ns q) = dropK (nv ns) q := by
  unfold nv less dropK
  rw [List.filter_map]
  rfl
theorem cut_take {xs : List V} (j : Nat) : cutV xs none (some (j : Int)) = xs.take j := by
  unfold cutV
  rw [HT.sIx_none, HT.sIx_nat, List.drop_zero, Nat.sub_zero]
  exact (List.take_eq_take_min ..).symm
theorem cut_drop {xs : List V} (j : Nat) : cutV xs (some (j : Int)) none = xs.drop j := by
  unfold cutV
  rw [HT.sIx_none, HT.sIx_nat]
  by_cases h : j ≤ xs.length
  · rw [Nat.min_eq_left h, ← List.length_drop, List.take_length]
  · rw [Nat.min_eq_right (by omega), List.drop_of_length_le (Nat.le_refl _), List.drop_of_length_le (by omega), List.take_nil]
theorem upTo_take_snoc : ∀ (rs : List Rw) (i : Nat) (r : Rw), (∀ x ∈ rs.take i, x.ns ≠ []) → rs[i]? = some r → r.ns = [] → upTo rs = rs.take (i + 1)
  | [], i, r, _, h, _ => by simp at h
  | x :: t, 0, r, _, h, e => by
    have z : x = r := by simpa using h
    subst z
    rw [upTo_cons, if_pos e]; simp
  | x :: t, i + 1, r, hp, h, e => by
    rw [upTo_cons, if_neg (hp x (by simp)), upTo_take_snoc t i r (fun y hy => hp y (by simp [hy])) (by simpa using h) e]
    simp
theorem upTo_all : ∀ (rs : List Rw), (∀ x ∈ rs, x.ns ≠ []) → upTo rs = rs
  | [], _ => rfl
  | x :: t, h => by rw [upTo_cons, if_neg (h x (by simp)), upTo_all t fun y hy => h y (by simp [hy])]
theorem nv_empty (ns : Needs) : (nv ns).isEmpty = decide (ns = []) := by cases ns <;> rfl
seal L2.PE L2.PA L2.PS L2.PSs L2.PT L2.PW L2.PG L2.PGs L2.PI
section
variable {P : Program} {w : World} {K : PySem.W.Frag} {mg : Str → Option Value} {base : Heap}
theorem sc_up_to_settled : FnScope ["rows", "kept", "row"] ["rows"] (defScope s_up_to_settled) := ⟨rfl, rfl, rfl, by decide +kernel, rfl, by decide +kernel, by decide +kernel⟩
theorem ok_upTo (FN : FunAt K mg "up_to_settled" s_up_to_settled ["rows"]) (B : Blt mg) : Callee P w K mg base 1 "up_to_settled" ["rows"] (spUpTo P w) := by
  refine FN.ok sc_up_to_settled (fun vs H Q E h => ?_) (fun f cdv A outer s H vs Q E hr h => ?_)
  · obtain ⟨l, ys, rs, rfl, _⟩ := h
    rfl
  obtain ⟨l, ys, rs, rfl, hl, hrs, hn, q⟩ := h
  have hlen := prd_len hrs
  refine ⟨_, ((pss_cons (ps_set (i := 1) sc_up_to_settled.nd rfl (Or.inl rfl) (pe_lst pa_nil))
    (pss_cons (ps_for PassesOwn.never rfl (pi_list (pv 0)) (pg_name (i := 2) sc_up_to_settled.nd rfl (Or.inl rfl))
      (pss_cons (ps_expr (pe_bm F.plainAttrs_list F.slot_list_append tyApp mt_append (pv 1) (pa_cons (pv 2) pa_nil)))
      (pss_one (ps_if (pt_not (pt_truthQ (pe_ix ix_tup (pv 2) pe_int (fun _ _ => rfl)) (fun _ => rfl)))
        (pss_one (ps_ret (pv 1))) pss_nil))))
    (pss_one (ps_ret (pv 1)))))), ?_⟩
  refine ⟨lenOk rfl, fun kp hkp => ?_⟩
  refine ⟨_, rfl, l, rfl, ⟨ys, SqL.of (by rw [upd_ne (ne_of_none hl hkp)]; exact hl)⟩, ?_⟩
  refine for_n (itn_l (xs := ys)) (fun i σ' H' => (∃ o, σ' = [some (.ref l), some (.ref kp), o]) ∧ Same H H' ∧ H' kp = some (.lst (ys.take i)) ∧ ∀ x ∈ rs.take i, x.ns ≠ []) ⟨⟨_, rfl⟩, same_new hkp _, upd_same, fun x hx => by simp at hx⟩ (fun i σ' H' _ z => SqL.of (z.2.1 _ _ hl)) (fun i x σ' H' hi hx z => ?_) (fun σ' H' z => ?_)
  · obtain ⟨⟨o, rfl⟩, g, hk, hne⟩ := z
    obtain ⟨r, hr1, p, nd, lq, zs, rfl, h1, h2, h3, h4⟩ := prd_get hrs hx
    have e1 : ys.take i ++ [.ref p] = ys.take (i + 1) := by rw [List.take_add_one, hx]; rfl
    have hil : (ys.take i).length ≤ 1000 := by rw [List.length_take]; omega
    refine ⟨_, rfl, .inl ⟨rfl, _, SqL.of hk⟩, _, rfl, kp, _, _, rfl, rfl, hk, lt_line hil, ?_⟩
    have g2 : Same H (upd H' kp (.lst (ys.take i ++ [.ref p]))) := g.upd hkp _
    refine ⟨_, rfl, p, _, _, _, rfl, rfl, SqT.of (g2 _ _ h1), rfl, ?_⟩
    obtain ⟨dd, rfl, qd⟩ := h2.mono g2
    refine ⟨dd, _, rfl, qd, ?_⟩
    rw [nv_empty]
    by_cases hns : r.ns = []
    · rw [decide_eq_true hns]
      refine ⟨_, rfl, q kp _ _ g2 hkp upd_same ?_⟩
      rw [upTo_take_snoc rs i r hne hr1 hns]
      rw [e1] at g2 ⊢
      exact Rws.mono g2 (prd_take hrs _)
    · rw [decide_eq_false hns]
      refine ⟨⟨_, rfl⟩, g2, by rw [upd_same, e1], fun x hx' => ?_⟩
      rw [List.take_add_one, hr1] at hx'
      rcases List.mem_append.mp hx' with z | z
      · exact hne x z
      · have : x = r := by simpa using z
        rw [this]; exact hns
  · obtain ⟨⟨o, rfl⟩, g, hk, hne⟩ := z
    refine ⟨_, rfl, q kp _ _ g hkp hk ?_⟩
    rw [List.take_of_length_le (by omega)] at hne
    rw [List.take_length, upTo_all rs hne]
    exact Rws.mono g hrs
theorem sc_row_after : FnScope ["row", "question", "answer", "needs", "index", "behind"] ["row", "question", "answer"] (defScope s_row_after) := ⟨rfl, rfl, rfl, by decide +kernel, rfl, by decide +kernel, by decide +kernel⟩
theorem ok_rowAfter (FN : FunAt K mg "row_after" s_row_after ["row", "question", "answer"]) (B : Blt mg) (AP : Aparts P w) (c_questions_behind : Callee P w K mg base 1 "questions_behind" ["question", "answer"] spBehind) : Callee P w K mg base 2 "row_after" ["row", "question", "answer"] (spRowAfter P w) := by
  refine FN.ok sc_row_after (fun vs H Q E h => ?_) (fun f cdv A outer s H vs Q E hr h => ?_)
  · obtain ⟨v, vq, k, r, p, rfl, _⟩ := h
    rfl
  obtain ⟨v, vq, k, r, p, rfl, ⟨pr, nd, lq, ys, rfl, h1, ⟨d, rfl, ep, xs, hd, hx, hk⟩, h3, h4⟩, hq, few, h100, hqs, hns, q⟩ := h
  obtain ⟨hl, hat⟩ := nv_prj hx
  refine ⟨_, ((pss_cons (ps_set (i := 3) sc_row_after.nd rfl (Or.inr rfl) (pe_callTy call_dictQ rfl B.dict_ PyProof.Rows.boot_dict (pa_cons (pe_ix ix_tup (pv 0) pe_int (fun _ _ => rfl)) pa_nil)))
    (pss_cons (ps_expr (pe_bmD PySem.F.slot_dict_pop PySem.F.type_dict_pop (mt_popQ (hu2_of hr)) (pv 3) (pa_cons (pv 1) pa_nil)))
    (pss_cons (ps_set (i := 4) sc_row_after.nd rfl (Or.inl rfl) (pe_bm F.plainAttrs_list F.slot_list_index tyIdx (mt_indexQ (hu2_of hr)) (pe_ix ix_tup (pv 0) pe_int (fun _ _ => rfl)) (pa_cons (pv 1) pa_nil)))
    (pss_cons (ps_setCompIS (i := 5) sc_row_after.nd rfl (Or.inl rfl) rfl (pi_list (pe_callC c_questions_behind hr rfl (pa_cons (pv 1) (pa_cons (pv 2) pa_nil)))) (cloS_of (defScope s_row_after).names ["row", "question", "answer", "needs", "index", "behind"] rfl rfl (by decide +kernel) rfl) (fun cl C s₀ H₀ ex => pifs_one (pt_cmpR (op_qinC (P := P) (w := w) rfl rfl (hu2_of hr)) (pv 0) (pv 4) (by with_unfolding_all rfl))) (fun cl C s₀ H₀ ex => (pv 0)))
    (pss_one (ps_ret (pe_tup (pa_cons (pe_ix ix_tup (pv 0) pe_int (fun _ _ => rfl)) (pa_cons (pv 3) (pa_cons (pe_op op_cat (pe_op op_cat (pe_slice sl_list (pe_ix ix_tup (pv 0) pe_int (fun _ _ => rfl)) po_none (po_some (pv 4))) (pv 5)) (pe_slice sl_list (pe_ix ix_tup (pv 0) pe_int (fun _ _ => rfl)) (po_some (pe_op op_add (pv 4) pe_int)) po_none)) pa_nil))))))))))), ?_⟩
  have few' : ∀ x ∈ xs, ∃ p, x.1 = Qn.k p ∧ p.length ≤ 3 := fun x hx' => by
    obtain ⟨i, hi⟩ := List.getElem?_of_mem hx'
    obtain ⟨n, hn, e1, _⟩ := hat i x hi
    rw [e1]
    obtain ⟨p, k, e, hp⟩ := few.2.2 n (List.mem_of_getElem? hn)
    exact ⟨p, by rw [e], hp⟩
  obtain ⟨p0, k0, ep0, hp3⟩ := few.2.2 _ hns
  have ep1 : p = p0 := by injection ep0 with z _; injection z
  subst ep1
  have hkn : xs.map (·.1) = nkeys r.ns := by rw [← prj_keys, ← hx, nv_keys]
  have hv : look r.ns (.k p) = some k.at := look_of few.2.1 hns
  refine ⟨_, rfl, pr, _, _, _, rfl, rfl, SqT.of h1, rfl, d, ep, xs, rfl, hd, hk, AP xs (by rw [hkn]; exact few.2.1) few', fun n1 ep1 hn1 => ?_⟩
  have g1 := same_new hn1 (dQ P w n1 ep1 xs)
  refine ⟨_, rfl, ⟨n1, rfl, .inl ⟨ep1, xs, upd_same⟩⟩, _, rfl, n1, ep1, xs, vq, .k p, _, rfl, rfl, upd_same, fun x hx' => (hk x hx').mono g1, hq.mono g1, by rw [← hx, nv_val, hv]; rfl, fun ep2 => ?_⟩
  have g2 : Same H (upd (upd H n1 (dQ P w n1 ep1 xs)) n1 (dQ P w n1 ep2 (dropQ xs (.k p)))) := g1.upd hn1 _ (notf upd_same)
  have eD : ∀ {Hx : Hp}, Same H Hx → Hx n1 = some (dQ P w n1 ep2 (dropQ xs (.k p))) → QD P w Hx n1 (nv (less r.ns (.k p))) := fun {Hx} g e => ⟨ep2, dropQ xs (.k p), e, by rw [nv_less, hx, prj_drop], fun x hx' => (hk x (List.mem_filter.mp hx').1).mono g⟩
  refine ⟨_, rfl, pr, _, _, _, rfl, rfl, SqT.of (g2 _ _ h1), rfl, .inl ⟨rfl, ys, SqL.of (g2 _ _ h3)⟩, _, rfl, lq, ys, r.qs, vq, .k p, r.qs.idxOf (.k p), rfl, rfl, g2 _ _ h3, prd_len h4, fun i v z hv hz => ?_, hq.mono g2, idx_get hqs, idx_min, ?_⟩
  · obtain ⟨z', hz', f⟩ := prd_get h4 hv
    rw [hz] at hz'
    cases hz'
    exact f.mono g2
  have e2 : upd (upd H n1 (dQ P w n1 ep1 xs)) n1 (dQ P w n1 ep2 (dropQ xs (.k p))) n1 = some (dQ P w n1 ep2 (dropQ xs (.k p))) := upd_same
  refine ⟨_, rfl, _, rfl, vq, p, k, rfl, hq.mono g2, by omega, fun lb zs H3 g3 hlb e3 q3 => ?_⟩
  have hbn : (behind (.k p) k.at).length ≤ 2 := by rw [behind_k]; split <;> simp
  have hzl := prd_len q3
  refine ⟨lb, rfl, ⟨zs, SqL.of e3⟩, comp_n (itn_l (xs := zs)) (fun i ws H' => Same H3 H' ∧ Qs H' ws (((behind (.k p) k.at).take i).filter fun z => decide (z ∈ nkeys (less r.ns (.k p))))) (le_line (by omega)) ⟨Same.refl _, .nil⟩ (fun i ws H' _ z => SqL.of (z.1 _ _ e3)) (fun i x ws H' NB NY hi hx' z k0 k1 => ?_) (fun ws H4 z hw lw hlw => ?_)⟩
  · obtain ⟨bq, hbq, qx⟩ := prd_get q3 hx'
    have et : (behind (.k p) k.at).take (i + 1) = (behind (.k p) k.at).take i ++ [bq] := by rw [List.take_add_one, hbq]; rfl
    have gx := g2.trans (g3.trans z.1)
    refine ⟨_, rfl, _, rfl, n1, _, bq, rfl, eD gx (z.1 _ _ (g3 _ _ e2)), qx.mono z.1, ?_⟩
    rw [nv_some, Bool.false_xor]
    refine ⟨_, rfl, iteB (fun hb => ⟨_, rfl, k1 _ _ ⟨z.1, ?_⟩⟩) (fun hb => k0 _ ⟨z.1, ?_⟩)⟩
    · rw [et, List.filter_append, List.filter_cons, if_pos hb]
      exact prd_app z.2 (.cons (qx.mono z.1) .nil)
    · rw [et, List.filter_append, List.filter_cons, if_neg (by rw [hb]; exact Bool.false_ne_true), List.filter_nil, List.append_nil]
      exact z.2
  have gw := same_new hlw (.lst ws)
  have g4 := g2.trans (g3.trans (z.1.trans gw))
  have hzq := z.2
  rw [List.take_of_length_le (by omega)] at hzq
  have e4 := g4 _ _ h3
  refine ⟨_, rfl, pr, _, _, _, rfl, rfl, SqT.of (g4 _ _ h1), rfl, _, rfl, _, rfl, pr, _, _, _, rfl, rfl, SqT.of (g4 _ _ h1), rfl, _, rfl, _, rfl, lq, ys, rfl, SqL.of e4, fun s1 hs1 => ?_⟩
  have g5 := same_new hs1 (.lst (cutV ys none (some ((r.qs.idxOf (.k p) : Nat) : Int))))
  have hyl := prd_len h4
  have hc1 := cutV_length ys none (some ((r.qs.idxOf (.k p) : Nat) : Int))
  refine ⟨_, rfl, s1, lw, _, ws, rfl, rfl, upd_same, g5 _ _ upd_same, le_line (by omega), fun s2 hs2 => ?_⟩
  have g6 := same_new hs2 (.lst (cutV ys none (some ((r.qs.idxOf (.k p) : Nat) : Int)) ++ ws))
  have g46 := g4.trans (g5.trans g6)
  refine ⟨_, rfl, pr, _, _, _, rfl, rfl, SqT.of (g46 _ _ h1), rfl, _, rfl, _, _, rfl, rfl, _, rfl, lq, ys, rfl, SqL.of (g46 _ _ h3), fun s3 hs3 => ?_⟩
  have g7 := same_new hs3 (.lst (cutV ys (some (((r.qs.idxOf (.k p) : Nat) : Int) + 1)) none))
  have hc2 := cutV_length ys (some (((r.qs.idxOf (.k p) : Nat) : Int) + 1)) none
  refine ⟨s2, s3, _, _, rfl, rfl, g7 _ _ upd_same, upd_same, le_line (by rw [List.length_append]; omega), fun s4 hs4 => ⟨lenOk rfl, fun s5 hs5 => ?_⟩⟩
  have g8 := same_new hs4 (.lst (cutV ys none (some ((r.qs.idxOf (.k p) : Nat) : Int)) ++ ws ++ cutV ys (some (((r.qs.idxOf (.k p) : Nat) : Int) + 1)) none))
  have g9 := same_new hs5 (.tup [V.int r.num, V.ref n1, V.ref s4])
  have gA := g4.trans (g5.trans (g6.trans (g7.trans (g8.trans g9))))
  have gB := g3.trans (z.1.trans (gw.trans (g5.trans (g6.trans (g7.trans (g8.trans g9))))))
  have gC := gw.trans (g5.trans (g6.trans (g7.trans (g8.trans g9))))
  refine q _ _ gA ⟨s5, .ref n1, s4, _, rfl, upd_same, ⟨n1, rfl, eD gA (gB _ _ e2)⟩, (g4.trans (g5.trans (g6.trans g7))).free hs4, g9 _ _ upd_same, ?_⟩
  have a1 := Qs.mono gA (prd_take h4 (r.qs.idxOf (.k p)))
  have a2 := Qs.mono gA (prd_drop h4 (r.qs.idxOf (.k p) + 1))
  rw [← cut_take (xs := ys)] at a1
  rw [← cut_drop (xs := ys)] at a2
  exact prd_app (prd_app a1 (Qs.mono gC hzq)) a2
theorem sc_rows_after : FnScope ["rows", "question", "answer", "kept", "row"] ["rows", "question", "answer"] (defScope s_rows_after) := ⟨rfl, rfl, rfl, by decide +kernel, rfl, by decide +kernel, by decide +kernel⟩
theorem ok_rowsAfter (FN : FunAt K mg "rows_after" s_rows_after ["rows", "question", "answer"]) (B : Blt mg) (c_row_after : Callee P w K mg base 2 "row_after" ["row", "question", "answer"] (spRowAfter P w)) (c_up_to_settled : Callee P w K mg base 1 "up_to_settled" ["rows"] (spUpTo P w)) : Callee P w K mg base 3 "rows_after" ["rows", "question", "answer"] (spRowsAfter P w) := by
  refine FN.ok sc_rows_after (fun vs H Q E h => ?_) (fun f cdv A outer s H vs Q E hr h => ?_)
  · obtain ⟨l, ys, rs, vq, k, p, rfl, _⟩ := h
    rfl
  obtain ⟨l, ys, rs, vq, k, p, rfl, hl, hrs, ⟨hn, hrd⟩, hq, hp, hask, q⟩ := h
  have hlen := prd_len hrs
  refine ⟨_, ((pss_cons (ps_set (i := 3) sc_rows_after.nd rfl (Or.inl rfl) (pe_lst pa_nil))
    (pss_cons (ps_for PassesOwn.never rfl (pi_list (pv 0)) (pg_name (i := 4) sc_rows_after.nd rfl (Or.inl rfl))
      (pss_one (ps_if (pt_cmpR (op_qnotin (hu2_of hr)) (pv 1) (pe_ix ix_tup (pv 4) pe_int (fun _ _ => rfl)) (by with_unfolding_all rfl))
        (pss_one (ps_expr (pe_bm F.plainAttrs_list F.slot_list_append tyApp mt_append (pv 3) (pa_cons (pv 4) pa_nil))))
        (pss_one (ps_if (pt_cmpR op_eq (pe_qget (hu2_of hr) (pe_ix ix_tup (pv 4) pe_int (fun _ _ => rfl)) (pv 1) (fun _ _ => rfl)) (pv 2) (nomark _))
          (pss_one (ps_expr (pe_bm F.plainAttrs_list F.slot_list_append tyApp mt_append (pv 3) (pa_cons (pe_callC c_row_after hr rfl (pa_cons (pv 4) (pa_cons (pv 1) (pa_cons (pv 2) pa_nil)))) pa_nil)))) pss_nil)))))
    (pss_one (ps_ret (pe_callC c_up_to_settled hr rfl (pa_cons (pv 3) pa_nil))))))), ?_⟩
  refine ⟨lenOk rfl, fun kp hkp => ?_⟩
  refine ⟨_, rfl, l, rfl, ⟨ys, SqL.of (by rw [upd_ne (ne_of_none hl hkp)]; exact hl)⟩, ?_⟩
  refine for_n (itn_l (xs := ys)) (fun i σ' H' => (∃ o, σ' = [some (.ref l), some vq, some (.str (Kd.word k)), some (.ref kp), o]) ∧ Same H H' ∧ ∃ zs, zs.length ≤ i ∧ H' kp = some (.lst zs) ∧ Rws P w (hide kp H') zs ((rs.take i).filterMap (keep1 (.k p) k.at))) ⟨⟨_, rfl⟩, same_new hkp _, [], Nat.le_refl _, upd_same, .nil⟩ (fun i σ' H' _ z => SqL.of (z.2.1 _ _ hl)) (fun i x σ' H' hi hx z => ?_) (fun σ' H' z => ?_)
  · obtain ⟨⟨o, rfl⟩, g, zs, hzl, hk, hz⟩ := z
    obtain ⟨r, hr1, rwx⟩ := prd_get hrs hx
    have et : (rs.take (i + 1)).filterMap (keep1 (.k p) k.at) = (rs.take i).filterMap (keep1 (.k p) k.at) ++ (keep1 (.k p) k.at r).toList := by
      rw [List.take_add_one, hr1, List.filterMap_append]
      cases e : keep1 (.k p) k.at r <;> simp [e]
    have rwx0 := rwx
    obtain ⟨pr, nd, lq, qs, rfl, h1, h2, h3, h4⟩ := rwx
    obtain ⟨d, rfl, qd⟩ := h2
    refine ⟨_, rfl, _, rfl, pr, _, _, _, rfl, rfl, SqT.of (g _ _ h1), rfl, d, _, .k p, rfl, qd.mono g, hq.mono g, _, rfl, ?_⟩
    rw [nv_some]
    by_cases hm : Qn.k p ∈ nkeys r.ns
    · rw [decide_eq_true hm]
      obtain ⟨a, ha⟩ := look_some hm
      refine iteF' rfl ?_
      refine ⟨_, rfl, pr, _, _, _, rfl, rfl, SqT.of (g _ _ h1), rfl, _, rfl, d, _, .k p, _, rfl, qd.mono g, hq.mono g, by rw [nv_val, ha]; rfl, ?_⟩
      obtain ⟨p', k', en, _⟩ := (hrd r (List.mem_of_getElem? hr1)).1.2.2 _ (look_mem ha)
      cases en
      refine ⟨_, rfl, rfl, _, rfl, ?_⟩
      by_cases hkk : k' = k
      · subst hkk
        refine iteT' (decide_eq_true rfl) ?_
        have hq' := hask r (List.mem_of_getElem? hr1) hm
        refine ⟨_, rfl, .inl ⟨rfl, _, SqL.of hk⟩, _, rfl, _, rfl, _, rfl, _, vq, k', r, p, rfl, rwx0.mono g, hq.mono g, (hrd r (List.mem_of_getElem? hr1)).1, (hrd r (List.mem_of_getElem? hr1)).2, hq', look_mem ha, fun x H2 g2 new => ?_⟩
        have hk2 := g2 _ _ hk
        refine ⟨kp, zs, x, rfl, rfl, hk2, lt_line (by omega), ⟨_, rfl⟩, (g.trans g2).upd hkp _, zs ++ [x], by simp; omega, upd_same, ?_⟩
        rw [hide_upd, et, show keep1 (.k p) k'.at r = some (rowAfter r (.k p) k'.at) by unfold keep1; rw [ha]; exact if_pos rfl]
        exact prd_app (hz.go (go_hide g2.go)) (.cons (new.hid hk hk2) .nil)
      · refine iteF' (decide_eq_false fun z => hkk (word_inj (by injection z))) ?_
        refine ⟨⟨_, rfl⟩, g, zs, by omega, hk, ?_⟩
        rw [et, show keep1 (.k p) k.at r = none by unfold keep1; rw [ha]; exact if_neg fun z => hkk (at_inj z)]
        simpa using hz
    · rw [decide_eq_false hm]
      refine iteT' rfl ?_
      refine ⟨_, rfl, .inl ⟨rfl, _, SqL.of hk⟩, _, rfl, kp, zs, _, rfl, rfl, hk, lt_line (by omega), ⟨_, rfl⟩, g.upd hkp _, zs ++ [.ref pr], by simp; omega, upd_same, ?_⟩
      rw [hide_upd, et, show keep1 (.k p) k.at r = some r by unfold keep1; rw [look_none.mpr hm]]
      exact prd_app hz (.cons (rwx0.go (go_in hkp g.go)) .nil)
  · obtain ⟨⟨o, rfl⟩, g, zs, hzl, hk, hz⟩ := z
    rw [List.take_of_length_le (by omega)] at hz
    have hzr := hz.go go_unhide
    refine ⟨_, rfl, kp, zs, _, rfl, hk, hzr, by rw [← prd_len hzr]; omega, fun l' ys' H2 g2 hl' e2 r2 => q l' ys' H2 (g.trans g2) (g.free hl') e2 r2⟩
end
end ST
set_option Elab.async false
set_option linter.all false
set_option maxRecDepth 100000
set_option maxHeartbeats 4000000
namespace ST
variable [TN]
open PySem L2
inductive Tws (H : Hp) : Nat → List V → List V → Prop where
  | nil : Tws H 0 [] []
  | int {n : Nat} {xs ys : List V} (i : Int) : Tws H n xs ys → Tws H (n + 1) (xs ++ [.int i]) (ys ++ [.int i])
  | str {n : Nat} {xs ys : List V} (x : Str) : Tws H n xs ys → Tws H (n + 1) (xs ++ [.str x]) (ys ++ [.str x])
  | non {n : Nat} {xs ys : List V} : Tws H n xs ys → Tws H (n + 1) (xs ++ [.non]) (ys ++ [.non])
  | tup {n : Nat} {xs ys us ws : List V} {p q : Addr} : H p = some (.tup us) → H q = some (.tup ws) → us.length = ws.length → Tws H n (xs ++ us) (ys ++ ws) → Tws H (n + 1) (xs ++ [.ref p]) (ys ++ [.ref q])
  | lst {n : Nat} {xs ys us ws : List V} {p q : Addr} : H p = some (.lst us) → H q = some (.lst ws) → us.length = ws.length → Tws H n (xs ++ us) (ys ++ ws) → Tws H (n + 1) (xs ++ [.ref p]) (ys ++ [.ref q])
theorem Tws.len {H : Hp} {n : Nat} {xs ys : List V} (h : Tws H n xs ys) : xs.length = ys.length ∧ xs.length ≤ n := by
  induction h with
  | nil => exact ⟨rfl, Nat.le_refl _⟩
  | int _ _ ih => simp only [List.length_append, List.length_singleton]; omega
  | str _ _ ih => simp only [List.length_append, List.length_singleton]; omega
  | non _ ih => simp only [List.length_append, List.length_singleton]; omega
  | tup _ _ e _ ih => simp only [List.length_append, List.length_singleton] at ih ⊢; omega
  | lst _ _ e _ ih => simp only [List.length_append, List.length_singleton] at ih ⊢; omega
noncomputable def D.wt : D → Nat
  | int _ => 1
  | str _ => 1
  | t1 a => a.wt + 1
  | t2 a b => a.wt + b.wt + 1
  | t3 a b c => a.wt + b.wt + c.wt + 1
theorem Tws.more {H : Hp} {v : V} {d : D} (h : Is H v d) : ∀ {n : Nat} {xs ys : List V}, Tws H n xs ys → Tws H (n + d.wt) (xs ++ [v]) (ys ++ [v]) := by
  induction h with
  | int i => intro n xs ys t; exact .int i t
  | str x => intro n xs ys t; exact .str x t
  | @t1 p x a e _ ia => intro n xs ys t; exact .tup e e rfl (ia t)
  | @t2 p x y a b e _ _ ia ib =>
    intro n xs ys t
    have z := ib (ia t)
    rw [List.append_assoc, List.append_assoc] at z
    have e2 : n + (D.t2 a b).wt = n + a.wt + b.wt + 1 := by show n + (a.wt + b.wt + 1) = _; omega
    rw [e2]
    exact .tup e e rfl z
  | @t3 p x y k a b c e _ _ _ ia ib ic =>
    intro n xs ys t
    have z := ic (ib (ia t))
    rw [List.append_assoc, List.append_assoc, List.append_assoc, List.append_assoc] at z
    have e2 : n + (D.t3 a b c).wt = n + a.wt + b.wt + c.wt + 1 := by show n + (a.wt + b.wt + c.wt + 1) = _; omega
    rw [e2]
    exact .tup e e rfl z
noncomputable def wts : List D → Nat
  | [] => 0
  | d :: r => d.wt + wts r
theorem Tws.all {H : Hp} {us : List V} {ds : List D} (h : AllIs H us ds) : ∀ {n : Nat} {xs ys : List V}, Tws H n xs ys → Tws H (n + wts ds) (xs ++ us) (ys ++ us) := by
  induction h with
  | nil => intro n xs ys t; simpa [wts] using t
  | @cons v d vs ds i _ ih =>
    intro n xs ys t
    have z := ih (t.more i)
    rw [List.append_assoc, List.append_assoc] at z
    have e2 : n + wts (d :: ds) = n + d.wt + wts ds := by show n + (d.wt + wts ds) = _; omega
    rw [e2]
    exact z
theorem Tws.lists {H : Hp} {p q : Addr} {us : List V} {ds : List D} (hp : H p = some (.lst us)) (hq : H q = some (.lst us)) (h : AllIs H us ds) : Tws H (wts ds + 1) [.ref p] [.ref q] := by
  have z := Tws.all h (n := 0) (xs := []) (ys := []) .nil
  rw [Nat.zero_add] at z
  exact .lst (xs := []) (ys := []) hp hq rfl z
theorem last_of {α : Type} (xs : List α) (x : α) : (xs ++ [x])[(xs ++ [x]).length - 1]? = some x := by simp
structure Alike (H₀ H : Hp) (l1 l2 : Addr) (n : Nat) : Prop where
  ex : ∃ xs ys, H l1 = some (.lst xs) ∧ H l2 = some (.lst ys) ∧ Tws H₀ n xs ys
  same : Same H₀ H
  n1 : H₀ l1 = none
  n2 : H₀ l2 = none
  ne : l1 ≠ l2
  few : n ≤ 100000
theorem few_line {n : Nat} (h : n ≤ 100000) : n ≤ sizeLine := Nat.le_trans h (by decide)
seal L2.PE L2.PA L2.PS L2.PSs L2.PT L2.PW L2.PG L2.PGs L2.PI
noncomputable def spWhole : Sp := fun vs H Q _ => ∃ i, vs = [.int i] ∧ Q (.bl true) H
noncomputable def spSame : Sp := fun vs H Q _ => ∃ v u n, vs = [v, u] ∧ Tws H n [v] [u] ∧ n ≤ 100000 ∧ ∀ H', Same H H' → Q (.bl true) H'
section
variable {P : Program} {w : World} {K : PySem.W.Frag} {mg : Str → Option Value} {base : Heap} {f : Addr} {fd : FuncData}
theorem sc__law_whole : FnScope ["_law_found"] ["_law_found"] (defScope sWhole) := ⟨rfl, rfl, rfl, by decide +kernel, rfl, by decide +kernel, by decide +kernel⟩
theorem ok_whole (FN : FunAt K mg "_law_whole" sWhole ["_law_found"]) (B : Blt mg) : Callee P w K mg base 1 "_law_whole" ["_law_found"] spWhole := by
  refine FN.ok sc__law_whole (fun vs H Q E h => ?_) (fun f cdv A outer s H vs Q E hr h => ?_)
  · obtain ⟨i, rfl, _⟩ := h
    rfl
  obtain ⟨i, rfl, q⟩ := h
  refine ⟨_, ((pss_one (ps_ret (pe_and (pe_callB call_inst rfl B.isinstance_ PyProof.Rows.boot_isinstance (pa_cons (pv 0) (pa_cons (pe_bltn (v := .ty "int") rfl B.int_ PyProof.Rows.boot_int rfl) pa_nil))) (pe_one (pe_not (pe_callB call_inst rfl B.isinstance_ PyProof.Rows.boot_isinstance (pa_cons (pv 0) (pa_cons (pe_bltn (v := .ty "bool") rfl B.bool_ PyProof.Rows.boot_bool rfl) pa_nil))))))))), ?_⟩
  exact ⟨_, rfl, _, _, _, _, rfl, .int i, kit_same K "int", _, rfl, iteT' rfl ⟨_, rfl, _, _, _, _, rfl, .int i, kit_int_bool K, _, rfl, q⟩⟩
theorem tyExt : typeOf (.builtin "list.extend") = pure (.type "method_descriptor") := by first | rfl | kernel_rfl
theorem sc__law_same : FnScope ["_law_found", "_law_due", "_law_left", "_law_right", "_law_one", "_law_two"] ["_law_found", "_law_due"] (defScope sSame) := ⟨rfl, rfl, rfl, by decide +kernel, rfl, by decide +kernel, by decide +kernel⟩
theorem ok_same (FN : FunAt K mg "_law_same" sSame ["_law_found", "_law_due"]) (B : Blt mg) (c__law_whole : Callee P w K mg base 1 "_law_whole" ["_law_found"] spWhole) : Callee P w K mg base 2 "_law_same" ["_law_found", "_law_due"] spSame := by
  refine FN.ok sc__law_same (fun vs H Q E h => ?_) (fun f cdv A outer s H vs Q E hr h => ?_)
  · obtain ⟨v, u, n, rfl, _⟩ := h
    rfl
  obtain ⟨v, u, n, rfl, tw, hn, q⟩ := h
  have hu := hr.units0
  refine ⟨_, ((pss_cons (ps_set (i := 2) sc__law_same.nd rfl (Or.inl rfl) (pe_lst (pa_cons (pv 0) pa_nil)))
    (pss_cons (ps_set (i := 3) sc__law_same.nd rfl (Or.inl rfl) (pe_lst (pa_cons (pv 1) pa_nil)))
    (pss_cons (ps_while PassesOwn.never (pt_cmpR (op_neNil hu) (pv 3) (pe_lst pa_nil) (nomark _))
      (pss_cons (ps_set (i := 4) sc__law_same.nd rfl (Or.inl rfl) (pe_bm0 F.plainAttrs_list F.slot_list_pop tyPop mt_pop (pv 2)))
      (pss_cons (ps_set (i := 5) sc__law_same.nd rfl (Or.inl rfl) (pe_bm0 F.plainAttrs_list F.slot_list_pop tyPop mt_pop (pv 3)))
      (pss_one (ps_if (pt_val (pe_callB call_instT rfl B.isinstance_ PyProof.Rows.boot_isinstance (pa_cons (pv 5) (pa_cons (pe_tup (pa_cons (pe_bltn (v := .ty "list") rfl B.list_ PyProof.Rows.boot_list rfl) (pa_cons (pe_bltn (v := .ty "tuple") rfl B.tuple_ PyProof.Rows.boot_tuple rfl) pa_nil))) pa_nil))))
        (pss_cons (ps_if (pt_cmpR op_ne (pe_callB call_inst rfl B.isinstance_ PyProof.Rows.boot_isinstance (pa_cons (pv 4) (pa_cons (pe_bltn (v := .ty "list") rfl B.list_ PyProof.Rows.boot_list rfl) pa_nil))) (pe_callB call_inst rfl B.isinstance_ PyProof.Rows.boot_isinstance (pa_cons (pv 5) (pa_cons (pe_bltn (v := .ty "list") rfl B.list_ PyProof.Rows.boot_list rfl) pa_nil))) (nomark _))
          (pss_one (ps_ret pe_bl)) pss_nil)
        (pss_cons (ps_if (PW.pt (pw_or (pt_cmpR op_ne (pe_callB call_inst rfl B.isinstance_ PyProof.Rows.boot_isinstance (pa_cons (pv 4) (pa_cons (pe_bltn (v := .ty "tuple") rfl B.tuple_ PyProof.Rows.boot_tuple rfl) pa_nil))) (pe_callB call_inst rfl B.isinstance_ PyProof.Rows.boot_isinstance (pa_cons (pv 5) (pa_cons (pe_bltn (v := .ty "tuple") rfl B.tuple_ PyProof.Rows.boot_tuple rfl) pa_nil))) (nomark _)) (pw_or1 (pt_cmpR op_ne (pe_callB call_len_seq rfl B.len_ PySem.boot_len (pa_cons (pv 4) pa_nil)) (pe_callB call_len_seq rfl B.len_ PySem.boot_len (pa_cons (pv 5) pa_nil)) (nomark _)))))
          (pss_one (ps_ret pe_bl)) pss_nil)
        (pss_cons (ps_expr (pe_bm F.plainAttrs_list F.slot_list_extend tyExt mt_ext (pv 2) (pa_cons (pv 4) pa_nil)))
        (pss_one (ps_expr (pe_bm F.plainAttrs_list F.slot_list_extend tyExt mt_ext (pv 3) (pa_cons (pv 5) pa_nil)))))))
        (pss_one (ps_if (pt_cmp (pc_isN (pv 5)))
          (pss_one (ps_if (pt_cmp (pc_notN (pv 4)))
            (pss_one (ps_ret pe_bl)) pss_nil))
          (pss_one (ps_if (pt_val (pe_callB call_inst rfl B.isinstance_ PyProof.Rows.boot_isinstance (pa_cons (pv 5) (pa_cons (pe_bltn (v := .ty "bool") rfl B.bool_ PyProof.Rows.boot_bool rfl) pa_nil)))) pss_never
            (pss_one (ps_if (pt_val (pe_callB call_inst rfl B.isinstance_ PyProof.Rows.boot_isinstance (pa_cons (pv 5) (pa_cons (pe_bltn (v := .ty "str") rfl B.str_ PyProof.Rows.boot_str rfl) pa_nil))))
              (pss_one (ps_if (PW.pt (pw_or (pt_not (pt_val (pe_callB call_inst rfl B.isinstance_ PyProof.Rows.boot_isinstance (pa_cons (pv 4) (pa_cons (pe_bltn (v := .ty "str") rfl B.str_ PyProof.Rows.boot_str rfl) pa_nil))))) (pw_or1 (pt_cmpR op_ne (pv 4) (pv 5) (nomark _)))))
                (pss_one (ps_ret pe_bl)) pss_nil))
              (pss_one (ps_if (PW.pt (pw_or (pt_not (pt_val (pe_callC c__law_whole hr rfl (pa_cons (pv 4) pa_nil)))) (pw_or1 (pt_cmpR op_ne (pv 4) (pv 5) (nomark _)))))
                (pss_one (ps_ret pe_bl)) pss_nil)))))))))))))
    (pss_one (ps_ret pe_bl)))))), ?_⟩
  refine ⟨_, rfl, lenOk rfl, fun l1 hl1 => ⟨_, rfl, lenOk rfl, fun l2 hl2 => ?_⟩⟩
  have g1 := same_new hl1 (.lst [v])
  have g2 := same_new hl2 (.lst [u])
  have hne : l1 ≠ l2 := ne_of_none upd_same hl2
  refine ⟨fun m σ H' => ∃ o4 o5, σ = [some v, some u, some (.ref l1), some (.ref l2), o4, o5] ∧ Alike H H' l1 l2 m, ⟨n, _, _, rfl, ⟨_, _, g2 _ _ upd_same, upd_same, tw⟩, g1.trans g2, hl1, g1.free hl2, hne, hn⟩, ?_⟩
  rintro m σ H0 ⟨o4, o5, rfl, hA⟩
  refine ⟨_, rfl, lenOk rfl, fun l0 hl0 => ?_⟩
  have g0 := same_new hl0 (.lst [])
  have en : upd H0 l0 (.lst []) l0 = some (.lst []) := upd_same
  obtain ⟨xs0, ys0, e10, e20, tw0⟩ := hA.ex
  have e1 := g0 _ _ e10
  have e2 := g0 _ _ e20
  have sm := hA.same.trans g0
  generalize upd H0 l0 (.lst []) = H1 at en e1 e2 sm ⊢
  have hfew := hA.few
  -- behind the two pops
  have after : ∀ {xs ys : List V} {x y : V}, xs0 = xs ++ [x] → ys0 = ys ++ [y] → ∃ H2, H2 = upd (upd H1 l1 (.lst xs)) l2 (.lst ys) ∧ H2 l1 = some (.lst xs) ∧ H2 l2 = some (.lst ys) ∧ Same H H2 := fun {xs ys x y} _ _ =>
    ⟨_, rfl, by rw [upd_ne hA.ne]; exact upd_same, upd_same, (sm.upd hA.n1 _).upd hA.n2 _⟩
  have again : ∀ {k : Nat} {H2 : Hp} {xs ys : List V} {a b : V}, H2 l1 = some (.lst xs) → H2 l2 = some (.lst ys) → Same H H2 → Tws H k xs ys → k < m →
      ∃ m', m' < m ∧ ∃ o4 o5, [some v, some u, some (V.ref l1), some (.ref l2), some a, some b] = [some v, some u, some (.ref l1), some (.ref l2), o4, o5] ∧ Alike H H2 l1 l2 m' := fun {k H2 xs ys a b} h1 h2 h3 h4 h5 =>
    ⟨k, h5, _, _, rfl, ⟨xs, ys, h1, h2, h4⟩, h3, hA.n1, hA.n2, hA.ne, by omega⟩
  cases tw0 with
  | nil => exact ⟨l2, l0, _, rfl, rfl, SqL.of e2, SqL.of en, _, rfl, iteF' rfl (q H1 sm)⟩
  | @int n xs ys i t =>
    obtain ⟨H2, h2, f1, f2, s2⟩ := after rfl rfl
    refine ⟨l2, l0, _, rfl, rfl, SqL.of e2, SqL.of en, _, rfl, iteT' (by simp) ?_⟩
    refine ⟨fun σ' H' => ∃ m', m' < n + 1 ∧ ∃ o4 o5, σ' = [some v, some u, some (.ref l1), some (.ref l2), o4, o5] ∧ Alike H H' l1 l2 m', fun σ' H' z => z, ?_⟩
    refine ⟨_, rfl, .inl ⟨rfl, _, SqL.of e1⟩, l1, _, _, rfl, rfl, e1, last_of _ _, ?_⟩
    refine ⟨_, rfl, .inl ⟨rfl, _, SqL.of (by rw [upd_ne (Ne.symm hA.ne)]; exact e2)⟩, l2, _, _, rfl, rfl, (by rw [upd_ne (Ne.symm hA.ne)]; exact e2), last_of _ _, ?_⟩
    simp only [List.dropLast_concat]
    rw [← h2]
    refine ⟨_, rfl, lenOk rfl, fun tp htp => ⟨_, tp, ["list", "tuple"], _, _, rfl, upd_same, .int i, any_int K, _, rfl, iteF' rfl ?_⟩⟩
    have g3 := same_new htp (.tup [V.ty "list", V.ty "tuple"])
    refine ⟨_, rfl, _, rfl, iteF' rfl ?_⟩
    refine ⟨_, rfl, _, _, _, _, rfl, .int i, kit_int_bool K, _, rfl, iteF' rfl ?_⟩
    refine ⟨_, rfl, _, _, _, _, rfl, .int i, kit_int_str K, _, rfl, iteF' rfl ?_⟩
    refine ⟨_, rfl, i, rfl, _, rfl, iteF' rfl ⟨_, rfl, _, rfl, rfl, _, rfl, iteF' (by simp) ?_⟩⟩
    exact again (g3 _ _ f1) (g3 _ _ f2) (s2.trans g3) t (Nat.lt_succ_self _)
  | @str n xs ys z t =>
    obtain ⟨H2, h2, f1, f2, s2⟩ := after rfl rfl
    refine ⟨l2, l0, _, rfl, rfl, SqL.of e2, SqL.of en, _, rfl, iteT' (by simp) ?_⟩
    refine ⟨fun σ' H' => ∃ m', m' < n + 1 ∧ ∃ o4 o5, σ' = [some v, some u, some (.ref l1), some (.ref l2), o4, o5] ∧ Alike H H' l1 l2 m', fun σ' H' z => z, ?_⟩
    refine ⟨_, rfl, .inl ⟨rfl, _, SqL.of e1⟩, l1, _, _, rfl, rfl, e1, last_of _ _, ?_⟩
    refine ⟨_, rfl, .inl ⟨rfl, _, SqL.of (by rw [upd_ne (Ne.symm hA.ne)]; exact e2)⟩, l2, _, _, rfl, rfl, (by rw [upd_ne (Ne.symm hA.ne)]; exact e2), last_of _ _, ?_⟩
    simp only [List.dropLast_concat]
    rw [← h2]
    refine ⟨_, rfl, lenOk rfl, fun tp htp => ⟨_, tp, ["list", "tuple"], _, _, rfl, upd_same, .str z, any_str K, _, rfl, iteF' rfl ?_⟩⟩
    have g3 := same_new htp (.tup [V.ty "list", V.ty "tuple"])
    refine ⟨_, rfl, _, rfl, iteF' rfl ?_⟩
    refine ⟨_, rfl, _, _, _, _, rfl, .str z, kit_str_bool K, _, rfl, iteF' rfl ?_⟩
    refine ⟨_, rfl, _, _, _, _, rfl, .str z, kit_same K "str", _, rfl, iteT' rfl ?_⟩
    refine ⟨_, rfl, _, _, _, _, rfl, .str z, kit_same K "str", _, rfl, iteF' rfl ⟨_, rfl, _, rfl, rfl, _, rfl, iteF' (by simp) ?_⟩⟩
    exact again (g3 _ _ f1) (g3 _ _ f2) (s2.trans g3) t (Nat.lt_succ_self _)
  | @non n xs ys t =>
    obtain ⟨H2, h2, f1, f2, s2⟩ := after rfl rfl
    refine ⟨l2, l0, _, rfl, rfl, SqL.of e2, SqL.of en, _, rfl, iteT' (by simp) ?_⟩
    refine ⟨fun σ' H' => ∃ m', m' < n + 1 ∧ ∃ o4 o5, σ' = [some v, some u, some (.ref l1), some (.ref l2), o4, o5] ∧ Alike H H' l1 l2 m', fun σ' H' z => z, ?_⟩
    refine ⟨_, rfl, .inl ⟨rfl, _, SqL.of e1⟩, l1, _, _, rfl, rfl, e1, last_of _ _, ?_⟩
    refine ⟨_, rfl, .inl ⟨rfl, _, SqL.of (by rw [upd_ne (Ne.symm hA.ne)]; exact e2)⟩, l2, _, _, rfl, rfl, (by rw [upd_ne (Ne.symm hA.ne)]; exact e2), last_of _ _, ?_⟩
    simp only [List.dropLast_concat]
    rw [← h2]
    refine ⟨_, rfl, lenOk rfl, fun tp htp => ⟨_, tp, ["list", "tuple"], _, _, rfl, upd_same, .non, any_non K, _, rfl, iteF' rfl ?_⟩⟩
    have g3 := same_new htp (.tup [V.ty "list", V.ty "tuple"])
    refine ⟨_, rfl, _, rfl, iteT' rfl ?_⟩
    refine ⟨_, rfl, _, rfl, iteF' rfl ?_⟩
    exact again (g3 _ _ f1) (g3 _ _ f2) (s2.trans g3) t (Nat.lt_succ_self _)
  | @tup n xs ys us ws p1 p2 ep eq el t =>
    obtain ⟨H2, h2, f1, f2, s2⟩ := after rfl rfl
    refine ⟨l2, l0, _, rfl, rfl, SqL.of e2, SqL.of en, _, rfl, iteT' (by simp) ?_⟩
    refine ⟨fun σ' H' => ∃ m', m' < n + 1 ∧ ∃ o4 o5, σ' = [some v, some u, some (.ref l1), some (.ref l2), o4, o5] ∧ Alike H H' l1 l2 m', fun σ' H' z => z, ?_⟩
    refine ⟨_, rfl, .inl ⟨rfl, _, SqL.of e1⟩, l1, _, _, rfl, rfl, e1, last_of _ _, ?_⟩
    refine ⟨_, rfl, .inl ⟨rfl, _, SqL.of (by rw [upd_ne (Ne.symm hA.ne)]; exact e2)⟩, l2, _, _, rfl, rfl, (by rw [upd_ne (Ne.symm hA.ne)]; exact e2), last_of _ _, ?_⟩
    simp only [List.dropLast_concat]
    rw [← h2]
    refine ⟨_, rfl, lenOk rfl, fun tp htp => ?_⟩
    have g3 := same_new htp (.tup [V.ty "list", V.ty "tuple"])
    have ep3 := g3 _ _ (s2 _ _ ep)
    have eq3 := g3 _ _ (s2 _ _ eq)
    have hlen := t.len
    rw [List.length_append, List.length_append] at hlen
    refine ⟨_, tp, ["list", "tuple"], _, _, rfl, upd_same, .tup eq3, any_tup K, _, rfl, iteT' rfl ?_⟩
    refine ⟨_, rfl, _, _, _, _, rfl, .tup ep3, kit_tup_list K, _, rfl, _, _, _, _, rfl, .tup eq3, kit_tup_list K, rfl, _, rfl, iteF' rfl ?_⟩
    refine ⟨_, rfl, _, _, _, _, rfl, .tup ep3, kit_same K "tuple", _, rfl, _, _, _, _, rfl, .tup eq3, kit_same K "tuple", rfl, _, rfl, iteF' rfl ?_⟩
    refine ⟨_, rfl, p1, us, rfl, .inr (SqT.of ep3), _, rfl, p2, ws, rfl, .inr (SqT.of eq3), rfl, _, rfl, iteF' (by rw [el]; simp) ?_⟩
    refine ⟨_, rfl, .inl ⟨rfl, _, SqL.of (g3 _ _ f1)⟩, _, rfl, .inr ⟨l1, p1, xs, us, rfl, rfl, g3 _ _ f1, ep3, few_line (by omega), ?_⟩⟩
    have k1 : ∀ {b : Addr} {o : HO}, b ≠ l1 → upd H2 tp (.tup [V.ty "list", V.ty "tuple"]) b = some o → upd (upd H2 tp (.tup [V.ty "list", V.ty "tuple"])) l1 (.lst (xs ++ us)) b = some o := fun {b o} hb z => by rw [upd_ne hb]; exact z
    have f2' := k1 (Ne.symm hA.ne) (g3 _ _ f2)
    have eq4 := k1 (ne_of_none eq hA.n1) eq3
    refine ⟨_, rfl, .inl ⟨rfl, _, SqL.of f2'⟩, _, rfl, .inr ⟨l2, p2, ys, ws, rfl, rfl, f2', eq4, few_line (by omega), ?_⟩⟩
    exact again (by rw [upd_ne hA.ne]; exact upd_same) upd_same (((s2.trans g3).upd hA.n1 _).upd hA.n2 _) t (Nat.lt_succ_self _)
  | @lst n xs ys us ws p1 p2 ep eq el t =>
    obtain ⟨H2, h2, f1, f2, s2⟩ := after rfl rfl
    refine ⟨l2, l0, _, rfl, rfl, SqL.of e2, SqL.of en, _, rfl, iteT' (by simp) ?_⟩
    refine ⟨fun σ' H' => ∃ m', m' < n + 1 ∧ ∃ o4 o5, σ' = [some v, some u, some (.ref l1), some (.ref l2), o4, o5] ∧ Alike H H' l1 l2 m', fun σ' H' z => z, ?_⟩
    refine ⟨_, rfl, .inl ⟨rfl, _, SqL.of e1⟩, l1, _, _, rfl, rfl, e1, last_of _ _, ?_⟩
    refine ⟨_, rfl, .inl ⟨rfl, _, SqL.of (by rw [upd_ne (Ne.symm hA.ne)]; exact e2)⟩, l2, _, _, rfl, rfl, (by rw [upd_ne (Ne.symm hA.ne)]; exact e2), last_of _ _, ?_⟩
    simp only [List.dropLast_concat]
    rw [← h2]
    refine ⟨_, rfl, lenOk rfl, fun tp htp => ?_⟩
    have g3 := same_new htp (.tup [V.ty "list", V.ty "tuple"])
    have ep3 := g3 _ _ (s2 _ _ ep)
    have eq3 := g3 _ _ (s2 _ _ eq)
    have hlen := t.len
    rw [List.length_append, List.length_append] at hlen
    refine ⟨_, tp, ["list", "tuple"], _, _, rfl, upd_same, .lst eq3, any_list K, _, rfl, iteT' rfl ?_⟩
    refine ⟨_, rfl, _, _, _, _, rfl, .lst ep3, kit_same K "list", _, rfl, _, _, _, _, rfl, .lst eq3, kit_same K "list", rfl, _, rfl, iteF' rfl ?_⟩
    refine ⟨_, rfl, _, _, _, _, rfl, .lst ep3, kit_list_tup K, _, rfl, _, _, _, _, rfl, .lst eq3, kit_list_tup K, rfl, _, rfl, iteF' rfl ?_⟩
    refine ⟨_, rfl, p1, us, rfl, .inl (SqL.of ep3), _, rfl, p2, ws, rfl, .inl (SqL.of eq3), rfl, _, rfl, iteF' (by rw [el]; simp) ?_⟩
    refine ⟨_, rfl, .inl ⟨rfl, _, SqL.of (g3 _ _ f1)⟩, _, rfl, .inl ⟨l1, p1, xs, us, rfl, rfl, g3 _ _ f1, ep3, few_line (by omega), ?_⟩⟩
    have k1 : ∀ {b : Addr} {o : HO}, b ≠ l1 → upd H2 tp (.tup [V.ty "list", V.ty "tuple"]) b = some o → upd (upd H2 tp (.tup [V.ty "list", V.ty "tuple"])) l1 (.lst (xs ++ us)) b = some o := fun {b o} hb z => by rw [upd_ne hb]; exact z
    have f2' := k1 (Ne.symm hA.ne) (g3 _ _ f2)
    have eq4 := k1 (ne_of_none eq hA.n1) eq3
    refine ⟨_, rfl, .inl ⟨rfl, _, SqL.of f2'⟩, _, rfl, .inl ⟨l2, p2, ys, ws, rfl, rfl, f2', eq4, few_line (by omega), ?_⟩⟩
    exact again (by rw [upd_ne hA.ne]; exact upd_same) upd_same (((s2.trans g3).upd hA.n1 _).upd hA.n2 _) t (Nat.lt_succ_self _)
end
end ST
set_option Elab.async false
set_option linter.all false
set_option maxRecDepth 100000
set_option maxHeartbeats 4000000
namespace ST
variable [TN]
open PySem L2
seal L2.PE L2.PA L2.PS L2.PSs L2.PT L2.PW L2.PG L2.PGs L2.PI
noncomputable def spAt (K : PySem.W.Frag) : Sp := fun vs H Q _ => ∃ (a : Addr) (ns : List Int) (k : Int), vs = [.ref a, .int k] ∧ SqL K H a (ns.map V.int) ∧ ns.length ≤ 63 ∧ ∀ i H', Same H H' → Q (.int i) H'
noncomputable def spLeaf : Sp := fun vs H Q _ => ∃ c, vs = [.int c] ∧ ∀ r s H', Same H H' → Is H' r (Sh.d s) → s.leaf = true → Q r H'
noncomputable def spVal : Sp := fun vs H Q _ => ∃ a s c, vs = [a, .int c] ∧ Is H a (Sh.d s) ∧ s.leaf = true ∧ ∀ r x H', Same H H' → Is H' r (Va.d x) → (Va.d x).depth ≤ 2 → Q r H'
noncomputable def spMoved (n : Nat) : Sp := fun vs H Q _ => ∃ v d far word, vs = [v, .int far, .str word] ∧ Is H v d ∧ d.depth < n ∧ ∀ r H', Same H H' → Is H' r (D.mv far word d) → Q r H'
noncomputable def spFar (K : PySem.W.Frag) : Sp := fun vs H Q _ => ∃ (a : Addr) (ns : List Int), vs = [.ref a] ∧ SqL K H a (ns.map V.int) ∧ ns.length ≤ 63 ∧ ∀ i H', Same H H' → Q (.int i) H'
noncomputable def spWord (K : PySem.W.Frag) : Sp := fun vs H Q _ => ∃ (a : Addr) (ns : List Int), vs = [.ref a] ∧ SqL K H a (ns.map V.int) ∧ ns.length ≤ 63 ∧ ∀ i H', Same H H' → Q (.str i) H'
theorem ndT {p : Prop} [Decidable p] (h : (!decide p) = true) : ¬ p := by simpa using h
theorem ndF {p : Prop} [Decidable p] (h : (!decide p) = false) : p := by simpa using h
section
variable {P : Program} {w : World} {K : PySem.W.Frag} {mg : Str → Option Value} {base : Heap} {f g : Addr} {fd gd : FuncData}
theorem scLKind : FnScope ["_law_value"] ["_law_value"] (defScope sLKind) := ⟨rfl, rfl, rfl, by decide +kernel, rfl, by decide +kernel, by decide +kernel⟩
theorem ok_lkind (FN : Fun K "_law_kind_of" "_law_kind_of" sLKind f fd) (mI : mg "isinstance" = none) (mInt : mg "int" = none) (mStr : mg "str" = none) (mTup : mg "tuple" = none) :
    FnOk P w K mg base CX0 1 f fd ["_law_value"] spKind := by
  refine FN.ok scLKind (fun vs H Q E h => ?_) (fun cdv A outer s H vs Q E hr h => ?_)
  · obtain ⟨v, x, rfl, _⟩ := h
    rfl
  obtain ⟨v, x, rfl, hv, q⟩ := h
  have bI : bootBuiltins "isinstance" = some (.builtin "isinstance") := PyProof.Rows.boot_isinstance
  have bInt : bootBuiltins "int" = some (.type "int") := PyProof.Rows.boot_int
  have bStr : bootBuiltins "str" = some (.type "str") := PyProof.Rows.boot_str
  have bTup : bootBuiltins "tuple" = some (.type "tuple") := PyProof.Rows.boot_tuple
  refine ⟨_, pss_cons (ps_if (pt_val (pe_callB call_inst rfl mI bI (pa_cons (pv 0) (pa_cons (pe_bltn (v := .ty "tuple") rfl mTup bTup rfl) pa_nil)))) (pss_one (ps_ret pe_str)) pss_nil)
    (pss_one (ps_ret (pe_ix ix_list (pe_lst (pa_cons pe_str (pa_cons pe_str pa_nil)))
      (pe_callTy call_int1 rfl mInt bInt (pa_cons (pe_callB call_inst rfl mI bI (pa_cons (pv 0) (pa_cons (pe_bltn (v := .ty "str") rfl mStr bStr rfl) pa_nil))) pa_nil)) (fun _ _ => rfl)))), ?_⟩
  cases x with
  | int i =>
    cases is_int hv
    refine ⟨_, rfl, _, _, _, _, rfl, .int i, kit_int_tup K, _, rfl, iteF' rfl ?_⟩
    refine ⟨lenOk rfl, fun l hl => ⟨_, rfl, _, _, _, _, rfl, .int i, kit_int_str K, .inr ⟨_, rfl, l, _, _, _, rfl, rfl, SqL.of upd_same, rfl, q _ (same_new hl _)⟩⟩⟩
  | str z =>
    cases is_str hv
    refine ⟨_, rfl, _, _, _, _, rfl, .str z, kit_str_tup K, _, rfl, iteF' rfl ?_⟩
    refine ⟨lenOk rfl, fun l hl => ⟨_, rfl, _, _, _, _, rfl, .str z, kit_same K "str", .inr ⟨_, rfl, l, _, _, _, rfl, rfl, SqL.of upd_same, rfl, q _ (same_new hl _)⟩⟩⟩
  | pr a b =>
    obtain ⟨p, u, z, rfl, e, _, _⟩ := is_t2 hv
    exact ⟨_, rfl, _, _, _, _, rfl, .tup e, kit_same K "tuple", _, rfl, iteT' rfl (q H (Same.refl H))⟩
theorem scLFit : FnScope ["_law_shape", "_law_value", "_law_todo", "_law_one", "_law_part"] ["_law_shape", "_law_value"] (defScope sLFit) := ⟨rfl, rfl, rfl, by decide +kernel, rfl, by decide +kernel, by decide +kernel⟩
theorem ok_lfit (FN : Fun K "_law_fit" "_law_fit" sLFit f fd) (G : FnOk P w K mg base CX0 1 g gd ["_law_value"] spKind) (bG : Binds K gd ["_law_value"] []) (kG : PySem.W.keepIn K (.ref g) = true) (mG : mg "_law_kind_of" = some (.ref g)) :
    FnOk P w K mg base CX0 2 f fd ["_law_shape", "_law_value"] spFit := by
  refine FN.ok scLFit (fun vs H Q E h => ?_) (fun cdv A outer s H vs Q E hr h => ?_)
  · obtain ⟨a, v, sh, x, rfl, _⟩ := h
    rfl
  obtain ⟨a, v, sh, x, rfl, ha, hv, hs, q⟩ := h
  have hu := hr.units0
  refine ⟨_, pss_cons (ps_set (i := 2) scLFit.nd rfl (Or.inl rfl) (pe_lst (pa_cons (pe_tup (pa_cons (pv 0) (pa_cons (pv 1) pa_nil))) pa_nil)))
    (pss_cons (ps_while PassesOwn.never (pt_cmpR (op_neNil hu) (pv 2) (pe_lst pa_nil) (nomark _))
      (pss_cons (ps_asg (pe_bm0 F.plainAttrs_list F.slot_list_pop tyPop mt_pop (pv 2)) (pg_tup (n := 2) rfl (pgs_cons (pg_name (i := 3) scLFit.nd rfl (Or.inl rfl)) (pgs_cons (pg_name (i := 4) scLFit.nd rfl (Or.inl rfl)) pgs_nil))))
      (pss_cons (ps_if (PW.pt (pw_and (pt_cmpR op_eq (pe_ix ix_tup (pv 3) pe_int (fun _ _ => rfl)) pe_str (nomark _))
          (pw_and1 (pt_cmpR op_ne (pe_ix ix_tup (pv 3) pe_int (fun _ _ => rfl)) (pe_call G hr rfl mG kG bG .nil pass0 (pa_cons (pv 4) pa_nil)) (nomark _))))) (pss_one (ps_ret pe_bl)) pss_nil)
      (pss_cons (ps_if (pt_cmpR op_eq (pe_ix ix_tup (pv 3) pe_int (fun _ _ => rfl)) pe_str (nomark _))
          (pss_one (ps_if (PW.pt (pw_or (pt_cmpR op_ne (pe_call G hr rfl mG kG bG .nil pass0 (pa_cons (pv 4) pa_nil)) (pe_call G hr rfl mG kG bG .nil pass0 (pa_cons (pe_ix ix_tup (pv 3) pe_int (fun _ _ => rfl)) pa_nil)) (nomark _))
            (pw_or1 (pt_cmpR op_ne (pv 4) (pe_ix ix_tup (pv 3) pe_int (fun _ _ => rfl)) (nomark _))))) (pss_one (ps_ret pe_bl)) pss_nil)) pss_nil)
      (pss_one (ps_if (pt_cmpR op_eq (pe_ix ix_tup (pv 3) pe_int (fun _ _ => rfl)) pe_str (nomark _))
        (pss_cons (ps_if (pt_cmpR op_ne (pe_call G hr rfl mG kG bG .nil pass0 (pa_cons (pv 4) pa_nil)) pe_str (nomark _)) (pss_one (ps_ret pe_bl)) pss_nil)
        (pss_cons (ps_expr (pe_bm F.plainAttrs_list F.slot_list_append tyApp mt_append (pv 2) (pa_cons (pe_tup (pa_cons (pe_ix ix_tup (pv 3) pe_int (fun _ _ => rfl)) (pa_cons (pe_ix ix_tup (pv 4) pe_int (fun _ _ => rfl)) pa_nil))) pa_nil)))
        (pss_one (ps_expr (pe_bm F.plainAttrs_list F.slot_list_append tyApp mt_append (pv 2) (pa_cons (pe_tup (pa_cons (pe_ix ix_tup (pv 3) pe_int (fun _ _ => rfl)) (pa_cons (pe_ix ix_tup (pv 4) pe_int (fun _ _ => rfl)) pa_nil))) pa_nil)))))) pss_nil))))))
    (pss_one (ps_ret pe_bl))), ?_⟩
  refine ⟨_, rfl, _, rfl, lenOk rfl, fun q0 hq0 => ⟨lenOk rfl, fun l hl => ?_⟩⟩
  refine ⟨fun m σ H' => ∃ o3 o4, σ = [some a, some v, some (.ref l), o3, o4] ∧ Loop H H' l m (fit sh x), ⟨_, _, _, rfl, Loop.start ha hv hs hq0 hl⟩, ?_⟩
  rintro m σ H0 ⟨o3, o4, rfl, hL0⟩
  -- the list without items that is compared with
  refine ⟨_, rfl, lenOk rfl, fun l0 hl0 => ?_⟩
  have g0 : Same H0 (upd H0 l0 (.lst [])) := same_new hl0 _
  have en : upd H0 l0 (.lst []) l0 = some (.lst []) := upd_same
  have hL : Loop H (upd H0 l0 (.lst [])) l m (fit sh x) := by
    obtain ⟨xs, ds, e, st, wa, sz⟩ := hL0.ex
    exact ⟨⟨xs, ds, g0 _ _ e, st.tk (tk_of g0), wa, sz⟩, hL0.same.trans g0, hL0.new, hL0.few⟩
  generalize upd H0 l0 (.lst []) = H1 at en hL ⊢
  rcases hL.pop with ⟨xs, e, em, wt⟩ | ⟨xs, q1, a1, v1, s1, x1, ds, e, em, hlast, hq1, ha1, hv1, hw, hsz, st, sm, tk, hlen⟩
  · refine ⟨l, l0, xs, rfl, rfl, SqL.of e, SqL.of en, _, rfl, iteF' (by rw [em]; rfl) ?_⟩
    have z := q H1 hL.same
    rw [wt] at z
    exact z
  refine ⟨l, l0, xs, rfl, rfl, SqL.of e, SqL.of en, _, rfl, iteT' (by rw [em]; rfl) ?_⟩
  refine ⟨fun σ' H' => ∃ m', m' < m ∧ ∃ o3 o4, σ' = [some a, some v, some (.ref l), o3, o4] ∧ Loop H H' l m' (fit sh x), fun σ' H' z => z, ?_⟩
  refine ⟨_, rfl, .inl ⟨rfl, xs, SqL.of e⟩, l, xs, _, rfl, rfl, e, hlast, ?_⟩
  refine ⟨q1, _, rfl, SqT.of (tk _ _ hq1), rfl, a1, _, rfl, v1, _, rfl, rfl, ?_⟩
  have e2 : upd H1 l (.lst xs.dropLast) l = some (.lst xs.dropLast) := upd_same
  have ha2 := ha1.tk tk
  have hv2 := hv1.tk tk
  generalize upd H1 l (.lst xs.dropLast) = H2 at st sm tk e2 ha2 hv2 ⊢
  have bad : ∀ {H' : Hp}, Same H2 H' → fit s1 x1 = false → Q (.bl false) H' := fun {H'} g' z => by
    have y := q H' (sm.trans g')
    rw [← hw, z] at y
    exact y
  have good : ∀ {H' : Hp}, Same H2 H' → fit s1 x1 = true → s1.leaf = true → ∃ m', m' < m ∧ ∃ o3 o4, [some a, some v, some (V.ref l), some a1, some v1] = [some a, some v, some (.ref l), o3, o4] ∧ Loop H H' l m' (fit sh x) := fun {H'} g' z y => by
    obtain ⟨m', hm, hL'⟩ := hL.leaf (g' _ _ e2) (st.tk (tk_of g')) hw hsz (sm.trans g') (by rw [outer_leaf y]; exact z) y
    exact ⟨m', hm, _, _, rfl, hL'⟩
  cases s1 with
  | any =>
    obtain ⟨p, u, rfl, ep, hu1⟩ := is_t1 ha2
    cases is_str hu1
    refine ⟨_, rfl, p, _, _, _, rfl, rfl, SqT.of ep, rfl, rfl, _, rfl, iteF' (by decide +kernel) (iteF' rfl ?_)⟩
    refine ⟨_, rfl, p, _, _, _, rfl, rfl, SqT.of ep, rfl, rfl, _, rfl, iteF' (by decide +kernel) ?_⟩
    refine ⟨_, rfl, p, _, _, _, rfl, rfl, SqT.of ep, rfl, rfl, _, rfl, iteF' (by decide +kernel) ?_⟩
    exact good (Same.refl H2) rfl rfl
  | kind k =>
    obtain ⟨p, u, z, rfl, ep, hu1, hz⟩ := is_t2 ha2
    cases is_str hu1
    cases is_str hz
    refine ⟨_, rfl, p, _, _, _, rfl, rfl, SqT.of ep, rfl, rfl, _, rfl, iteT' (by decide +kernel) ?_⟩
    refine ⟨_, rfl, p, _, _, _, rfl, rfl, SqT.of ep, rfl, _, rfl, _, x1, rfl, hv2, fun H3 g3 => ⟨rfl, _, rfl, ?_⟩⟩
    rw [dec_word]
    refine iteB (fun c => ?_) (fun c => ?_)
    · refine bad g3 ?_
      have c' : ¬ k = x1.kd := by simpa using c
      exact decide_eq_false fun z => c' z.symm
    · refine ⟨_, rfl, p, _, _, _, rfl, rfl, SqT.of (g3 _ _ ep), rfl, rfl, _, rfl, iteF' (by decide +kernel) ?_⟩
      refine ⟨_, rfl, p, _, _, _, rfl, rfl, SqT.of (g3 _ _ ep), rfl, rfl, _, rfl, iteF' (by decide +kernel) ?_⟩
      refine good g3 ?_ rfl
      have c' : k = x1.kd := by simpa using c
      exact decide_eq_true c'.symm
  | si i =>
    obtain ⟨p, u, z, rfl, ep, hu1, hz⟩ := is_t2 ha2
    cases is_str hu1
    cases is_int hz
    refine ⟨_, rfl, p, _, _, _, rfl, rfl, SqT.of ep, rfl, rfl, _, rfl, iteF' (by decide +kernel) (iteF' rfl ?_)⟩
    refine ⟨_, rfl, p, _, _, _, rfl, rfl, SqT.of ep, rfl, rfl, _, rfl, iteT' (by decide +kernel) ?_⟩
    refine ⟨_, rfl, _, x1, rfl, hv2, fun H3 g3 => ⟨_, rfl, p, _, _, _, rfl, rfl, SqT.of (g3 _ _ ep), rfl, _, .int i, rfl, .int i, fun H4 g4 => ⟨rfl, _, rfl, ?_⟩⟩⟩
    have g34 := g3.trans g4
    rw [dec_word]
    refine iteB (fun c => ?_) (fun c => ?_)
    · refine iteT' rfl (bad g34 ?_)
      have c' : ¬ x1.kd = Kd.n := ndT (p := x1.kd = Kd.n) c
      cases x1 with
      | int j => exact absurd rfl c'
      | _ => rfl
    · have c' : x1.kd = Kd.n := ndF (p := x1.kd = Kd.n) c
      cases x1 with
      | int j =>
        cases is_int hv2
        refine ⟨_, rfl, _, rfl, p, _, _, _, rfl, rfl, SqT.of (g34 _ _ ep), rfl, rfl, _, rfl, iteB (fun c2 => ?_) (fun c2 => ?_)⟩
        · refine bad g34 ?_
          have c3 : ¬ j = i := by simpa using c2
          exact decide_eq_false c3
        · refine ⟨_, rfl, p, _, _, _, rfl, rfl, SqT.of (g34 _ _ ep), rfl, rfl, _, rfl, iteF' (by decide +kernel) ?_⟩
          have c3 : j = i := by simpa using c2
          exact good g34 (decide_eq_true c3) rfl
      | str j => exact absurd c' (by simp [Va.kd])
      | pr j k => exact absurd c' (by simp [Va.kd])
  | ss i =>
    obtain ⟨p, u, z, rfl, ep, hu1, hz⟩ := is_t2 ha2
    cases is_str hu1
    cases is_str hz
    refine ⟨_, rfl, p, _, _, _, rfl, rfl, SqT.of ep, rfl, rfl, _, rfl, iteF' (by decide +kernel) (iteF' rfl ?_)⟩
    refine ⟨_, rfl, p, _, _, _, rfl, rfl, SqT.of ep, rfl, rfl, _, rfl, iteT' (by decide +kernel) ?_⟩
    refine ⟨_, rfl, _, x1, rfl, hv2, fun H3 g3 => ⟨_, rfl, p, _, _, _, rfl, rfl, SqT.of (g3 _ _ ep), rfl, _, .str i, rfl, .str i, fun H4 g4 => ⟨rfl, _, rfl, ?_⟩⟩⟩
    have g34 := g3.trans g4
    rw [dec_word]
    refine iteB (fun c => ?_) (fun c => ?_)
    · refine iteT' rfl (bad g34 ?_)
      have c' : ¬ x1.kd = Kd.t := ndT (p := x1.kd = Kd.t) c
      cases x1 with
      | str j => exact absurd rfl c'
      | _ => rfl
    · have c' : x1.kd = Kd.t := ndF (p := x1.kd = Kd.t) c
      cases x1 with
      | str j =>
        cases is_str hv2
        refine ⟨_, rfl, _, rfl, p, _, _, _, rfl, rfl, SqT.of (g34 _ _ ep), rfl, rfl, _, rfl, iteB (fun c2 => ?_) (fun c2 => ?_)⟩
        · refine bad g34 ?_
          have c3 : ¬ j = i := by simpa using c2
          exact decide_eq_false c3
        · refine ⟨_, rfl, p, _, _, _, rfl, rfl, SqT.of (g34 _ _ ep), rfl, rfl, _, rfl, iteF' (by decide +kernel) ?_⟩
          have c3 : j = i := by simpa using c2
          exact good g34 (decide_eq_true c3) rfl
      | int j => exact absurd c' (by simp [Va.kd])
      | pr j k => exact absurd c' (by simp [Va.kd])
  | pair b1 c1 =>
    obtain ⟨p, u1, u2, u3, rfl, ep, hu1, hu2, hu3⟩ := is_t3 ha2
    cases is_str hu1
    refine ⟨_, rfl, p, _, _, _, rfl, rfl, SqT.of ep, rfl, rfl, _, rfl, iteF' (by decide +kernel) (iteF' rfl ?_)⟩
    refine ⟨_, rfl, p, _, _, _, rfl, rfl, SqT.of ep, rfl, rfl, _, rfl, iteF' (by decide +kernel) ?_⟩
    refine ⟨_, rfl, p, _, _, _, rfl, rfl, SqT.of ep, rfl, rfl, _, rfl, iteT' (by decide +kernel) ?_⟩
    refine ⟨_, rfl, _, x1, rfl, hv2, fun H3 g3 => ⟨rfl, _, rfl, ?_⟩⟩
    rw [dec_wordP]
    refine iteB (fun c => ?_) (fun c => ?_)
    · have c' : ¬ x1.kd = Kd.p := by simpa using c
      refine bad g3 ?_
      cases x1 with
      | pr y z => exact absurd rfl c'
      | _ => rfl
    · have c' : x1.kd = Kd.p := by simpa using c
      cases x1 with
      | int j => exact absurd c' (by simp [Va.kd])
      | str j => exact absurd c' (by simp [Va.kd])
      | pr y1 z1 =>
        have e3 := g3 _ _ e2
        have st3 := st.tk (tk_of g3)
        have sm3 := sm.trans g3
        have ep3 := g3 _ _ ep
        have hu2' := hu2.mono g3
        have hu3' := hu3.mono g3
        obtain ⟨p2, w1, w2, rfl, hp2, hw1, hw2⟩ := is_t2 (hv2.mono g3)
        refine ⟨_, rfl, .inl ⟨rfl, _, SqL.of e3⟩, _, rfl, p, _, _, _, rfl, rfl, SqT.of ep3, rfl, _, rfl, p2, _, _, _, rfl, rfl, SqT.of hp2, rfl, lenOk rfl, fun q3 hq3 => ?_⟩
        have g4 : Same H3 (upd H3 q3 (.tup [u2, w1])) := same_new hq3 _
        refine ⟨l, xs.dropLast, _, rfl, rfl, g4 _ _ e3, lt_line hlen, ?_⟩
        have st4 := st3.more e3 hu2' hw1 hq3
        have t4 : ∀ b zs, H3 b = some (.tup zs) → upd (upd H3 q3 (.tup [u2, w1])) l (.lst (xs.dropLast ++ [.ref q3])) b = some (.tup zs) := fun b zs k => tk_lst (g4 _ _ e3) b zs (g4 _ _ k)
        have sm4 : Same H (upd (upd H3 q3 (.tup [u2, w1])) l (.lst (xs.dropLast ++ [.ref q3]))) := (sm3.trans g4).upd hL.new _
        have e4 : upd (upd H3 q3 (.tup [u2, w1])) l (.lst (xs.dropLast ++ [.ref q3])) l = some (.lst (xs.dropLast ++ [.ref q3])) := upd_same
        generalize upd (upd H3 q3 (.tup [u2, w1])) l (.lst (xs.dropLast ++ [.ref q3])) = H4 at st4 t4 sm4 e4 ⊢
        refine ⟨_, rfl, .inl ⟨rfl, _, SqL.of e4⟩, _, rfl, p, _, _, _, rfl, rfl, SqT.of (t4 _ _ ep3), rfl, _, rfl, p2, _, _, _, rfl, rfl, SqT.of (t4 _ _ hp2), rfl, lenOk rfl, fun q4 hq4 => ?_⟩
        have g5 : Same H4 (upd H4 q4 (.tup [u3, w2])) := same_new hq4 _
        refine ⟨l, _, _, rfl, rfl, g5 _ _ e4, lt_line2 (by rw [List.length_append, List.length_singleton]; omega), ?_⟩
        have st5 := st4.more e4 (hu3'.tk t4) (hw2.tk t4) hq4
        obtain ⟨m', hm, hL'⟩ := hL.parts upd_same st5 (.inr rfl) hw hsz ((sm4.trans g5).upd hL.new _)
        exact ⟨m', hm, _, _, rfl, hL'⟩
end
end ST
set_option Elab.async false
set_option linter.all false
set_option maxRecDepth 100000
set_option maxHeartbeats 4000000
namespace ST
variable [TN]
open PySem L2
seal L2.PE L2.PA L2.PS L2.PSs L2.PT L2.PW L2.PG L2.PGs L2.PI
section
variable {P : Program} {w : World} {K : PySem.W.Frag} {mg : Str → Option Value} {base : Heap} {f g : Addr} {fd gd : FuncData}
theorem scLeaf : FnScope ["_law_cell", "_law_some"] ["_law_cell"] (defScope sLeaf) := ⟨rfl, rfl, rfl, by decide +kernel, rfl, by decide +kernel, by decide +kernel⟩
noncomputable def LeafD (d : D) : Prop := ∃ s : Sh, s.leaf = true ∧ d = s.d
theorem ok_leaf (FN : Fun K "_law_leaf_by" "_law_leaf_by" sLeaf f fd) : FnOk P w K mg base CX0 1 f fd ["_law_cell"] spLeaf := by
  refine FN.ok scLeaf (fun vs H Q E h => ?_) (fun cdv A outer s H vs Q E hr h => ?_)
  · obtain ⟨c, rfl, _⟩ := h
    rfl
  obtain ⟨c, rfl, q⟩ := h
  refine ⟨_, pss_cons (ps_set (i := 1) scLeaf.nd rfl (Or.inl rfl) (lit_lst (al_t2 (al_str (al_int all_nil)) (al_t2 (al_str (al_str all_nil))
      (al_t2 (al_str (al_neg all_nil)) (al_t1 (al_str all_nil) (al_t2 (al_str (al_str all_nil)) all_nil)))))))
    (pss_cons (ps_set (i := 1) scLeaf.nd rfl (Or.inl rfl) (pe_op op_cat (pv 1) (lit_lst (al_t2 (al_str (al_str all_nil)) (al_t2 (al_str (al_int all_nil))
      (al_t2 (al_str (al_str all_nil)) (al_t2 (al_str (al_int all_nil)) all_nil)))))))
    (pss_one (ps_ret (pe_ix ix_list (pe_op op_cat (pv 1) (lit_lst (al_t2 (al_str (al_str all_nil)) (al_t2 (al_str (al_str all_nil)) all_nil))))
      (pe_op op_mod (pv 0) pe_int) (fun _ _ => rfl))))), ?_⟩
  intro l1 vs1 H1 g1 e1 i1
  refine ⟨_, rfl, fun l2 vs2 H2 g2 e2 i2 => ?_⟩
  have n1 := i1.len
  have n2 := i2.len
  refine ⟨l1, l2, vs1, vs2, rfl, rfl, g2 _ _ e1, e2, le_line (by rw [n1, n2]; decide), fun l3 hl3 => ?_⟩
  have g3 := same_new hl3 (.lst (vs1 ++ vs2))
  refine ⟨_, rfl, fun l4 vs4 H4 g4 e4 i4 => ?_⟩
  have n4 := i4.len
  refine ⟨l3, l4, vs1 ++ vs2, vs4, rfl, rfl, g4 _ _ upd_same, e4, le_line (by rw [List.length_append, n1, n2, n4]; decide), fun l5 hl5 => ?_⟩
  have g5 := same_new hl5 (.lst (vs1 ++ vs2 ++ vs4))
  have all := ((((i1.mono g2).append i2).mono (g3.trans g4)).append i4).mono g5
  obtain ⟨v, d, hv, hd, hi⟩ := all.at (i := c % 11) (Int.emod_nonneg _ (by decide)) (by
    have h11 := Int.emod_lt_of_pos c (show (0 : Int) < 11 by decide)
    rw [List.length_append, List.length_append]
    exact h11)
  refine ⟨_, rfl, _, _, rfl, rfl, (show (0 : Int) < 11 by decide), l5, _, _, _, rfl, rfl, SqL.of upd_same, hv, ?_⟩
  have hL : LeafD d := by
    simp only [List.cons_append, List.nil_append, List.mem_cons, List.not_mem_nil, or_false] at hd
    rcases hd with rfl | rfl | rfl | rfl | rfl | rfl | rfl | rfl | rfl | rfl | rfl
    · exact ⟨.si 0, rfl, rfl⟩
    · exact ⟨.kind .n, rfl, rfl⟩
    · exact ⟨.si (-1), rfl, rfl⟩
    · exact ⟨.any, rfl, rfl⟩
    · exact ⟨.ss "", rfl, rfl⟩
    · exact ⟨.kind .t, rfl, rfl⟩
    · exact ⟨.si 1000000000000, rfl, rfl⟩
    · exact ⟨.kind .p, rfl, rfl⟩
    · exact ⟨.si 0, rfl, rfl⟩
    · exact ⟨.ss "b", rfl, rfl⟩
    · exact ⟨.ss "ab", rfl, rfl⟩
  obtain ⟨sh, hs, rfl⟩ := hL
  exact q v sh _ (g1.trans (g2.trans (g3.trans (g4.trans g5)))) hi hs
end
end ST
set_option Elab.async false
set_option linter.all false
set_option maxRecDepth 100000
set_option maxHeartbeats 4000000
namespace ST
variable [TN]
open PySem L2
noncomputable def first : List Sh → Va → Option Nat
  | [], _ => none
  | s :: r, x => if fit s x = true then some 0 else (first r x).map (· + 1)
theorem first_some {x : Va} : ∀ {ss : List Sh} {k : Nat} {s : Sh}, (∀ (j : Nat) (s : Sh), j < k → ss[j]? = some s → fit s x = false) → ss[k]? = some s → fit s x = true → first ss x = some k
  | [], k, s, _, h, _ => by simp at h
  | a :: r, 0, s, _, h, e => by
    have h' : a = s := by simpa using h
    subst h'
    show (if fit a x = true then _ else _) = _
    rw [if_pos e]
  | a :: r, k + 1, s, hb, h, e => by
    have h0 := hb 0 a (Nat.succ_pos _) rfl
    show (if fit a x = true then _ else _) = _
    rw [if_neg (by rw [h0]; exact Bool.false_ne_true), first_some (k := k) (s := s) (fun j s' hj hs => hb (j + 1) s' (Nat.succ_lt_succ hj) (by simpa using hs)) (by simpa using h) e]
    rfl
theorem first_none {x : Va} : ∀ {ss : List Sh}, (∀ (j : Nat) (s : Sh), ss[j]? = some s → fit s x = false) → first ss x = none
  | [], _ => rfl
  | a :: r, hb => by
    show (if fit a x = true then _ else _) = _
    rw [if_neg (by rw [hb 0 a rfl]; exact Bool.false_ne_true), first_none (ss := r) (fun j s hs => hb (j + 1) s (by simpa using hs))]
    rfl
noncomputable def vOpt : Option Nat → V
  | some k => .int k
  | none => .non
theorem AllIs.tk {H H' : Hp} (g : ∀ b xs, H b = some (.tup xs) → H' b = some (.tup xs)) {vs : List V} {ds : List D} (h : AllIs H vs ds) : AllIs H' vs ds := by
  induction h with
  | nil => exact .nil
  | cons i _ ih => exact .cons (i.tk g) ih
theorem AllIs.snoc {H : Hp} {vs : List V} {v : V} : ∀ {ds : List D}, AllIs H (vs ++ [v]) ds → ∃ ds' d, ds = ds' ++ [d] ∧ AllIs H vs ds' ∧ Is H v d := by
  induction vs with
  | nil =>
    intro ds h
    cases h with
    | cons i r => cases r; exact ⟨[], _, rfl, .nil, i⟩
  | cons u vs ih =>
    intro ds h
    cases h with
    | cons i r =>
      obtain ⟨ds', d, e, a, k⟩ := ih r
      subst e
      exact ⟨_ :: ds', d, rfl, .cons i a, k⟩
theorem AllIs.mapGet {α : Type} {H : Hp} {us : List V} {ss : List α} {f : α → D} (h : AllIs H us (ss.map f)) {j : Nat} {v : V} (e : us[j]? = some v) : ∃ s, ss[j]? = some s ∧ Is H v (f s) := by
  obtain ⟨d, q, i⟩ := h.get e
  rw [List.getElem?_map] at q
  cases k : ss[j]? with
  | none => rw [k] at q; cases q
  | some s => rw [k] at q; cases q; exact ⟨s, rfl, i⟩
noncomputable def Grown (H Hb : Hp) (l4 : Addr) (k : Nat) (H' : Hp) : Prop := ∃ (us : List V) (xs : List Va), H' l4 = some (.lst us) ∧ AllIs H' us (xs.map Va.d) ∧ (∀ x ∈ xs, x.d.depth ≤ 3) ∧ us.length = 7 + k ∧ Same H H' ∧ ∀ b o, b ≠ l4 → Hb b = some o → H' b = some o
seal L2.PE L2.PA L2.PS L2.PSs L2.PT L2.PW L2.PG L2.PGs L2.PI
noncomputable def spFirst : Sp := fun vs H Q _ => ∃ (a : Addr) (us : List V) (ss : List Sh) (v : V) (x : Va), vs = [.ref a, v] ∧ H a = some (.lst us) ∧ AllIs H us (ss.map Sh.d) ∧ us.length ≤ 1000 ∧ (∀ s ∈ ss, s.size ≤ 1000) ∧ Is H v x.d ∧ ∀ H', Same H H' → Q (vOpt (first ss x)) H'
noncomputable def spRow : Sp := fun vs H Q _ => ∃ c d, vs = [.int c, .int d] ∧ ∀ r s H', Same H H' → Is H' r (Sh.d s) → s.size ≤ 3 → (Sh.d s).depth ≤ 2 → Q r H'
noncomputable def spRows (K : PySem.W.Frag) : Sp := fun vs H Q _ => ∃ (a : Addr) (ns : List Int), vs = [.ref a] ∧ SqL K H a (ns.map V.int) ∧ ns.length ≤ 63 ∧
  ∀ (l : Addr) (us : List V) (ss : List Sh) (H' : Hp), Same H H' → H l = none → H' l = some (.lst us) → AllIs H' us (ss.map Sh.d) → (∀ s ∈ ss, s.size ≤ 3 ∧ s.d.depth ≤ 2) → us.length ≤ 32 → Q (.ref l) H'
noncomputable def spVals : Sp := fun vs H Q _ => vs = [] ∧ ∀ (l : Addr) (us : List V) (xs : List Va) (H' : Hp), Same H H' → H l = none → H' l = some (.lst us) → AllIs H' us (xs.map Va.d) → (∀ x ∈ xs, x.d.depth ≤ 3) → us.length ≤ 100 → Q (.ref l) H'
noncomputable def Va.size : Va → Nat
  | .pr a b => a.size + b.size + 1
  | _ => 1
noncomputable def vsz : List Va → Nat
  | [] => 0
  | x :: r => x.size + vsz r
noncomputable def spIsV : Sp := fun vs H Q _ => ∃ v x, vs = [v] ∧ Is H v (Va.d x) ∧ x.size ≤ 100000 ∧ ∀ H', Same H H' → Q (.bl true) H'
section
variable {P : Program} {w : World} {K : PySem.W.Frag} {mg : Str → Option Value} {base : Heap}
theorem sc__law_first_of : FnScope ["_law_rows", "_law_value", "_law_k"] ["_law_rows", "_law_value"] (defScope sFirst) := ⟨rfl, rfl, rfl, by decide +kernel, rfl, by decide +kernel, by decide +kernel⟩
theorem ok_first (FN : FunAt K mg "_law_first_of" sFirst ["_law_rows", "_law_value"]) (B : Blt mg) (c__law_fit : Callee P w K mg base 2 "_law_fit" ["_law_shape", "_law_value"] spFit) : Callee P w K mg base 3 "_law_first_of" ["_law_rows", "_law_value"] spFirst := by
  refine FN.ok sc__law_first_of (fun vs H Q E h => ?_) (fun f cdv A outer s H vs Q E hr h => ?_)
  · obtain ⟨a, us, ss, v, x, rfl, _⟩ := h
    rfl
  obtain ⟨a, us, ss, v, x, rfl, ha, hus, hlen, hsz, hv, q⟩ := h
  refine ⟨_, ((pss_cons (ps_for PassesOwn.never rfl (pi_range1 rfl B.range_ (pa_cons (pe_callB call_len_seq rfl B.len_ PySem.boot_len (pa_cons (pv 0) pa_nil)) pa_nil)) (pg_name (i := 2) sc__law_first_of.nd rfl (Or.inl rfl))
      (pss_one (ps_if (pt_val (pe_callC c__law_fit hr rfl (pa_cons (pe_ix ix_list (pv 0) (pv 2) (fun _ _ => rfl)) (pa_cons (pv 1) pa_nil))))
        (pss_one (ps_ret (pv 2))) pss_nil)))
    (pss_one (ps_ret pe_non)))), ?_⟩
  have hl : us.length = ss.length := by rw [hus.len, List.length_map]
  refine ⟨_, rfl, a, us, rfl, .inl (SqL.of ha), _, rfl, by omega, by omega, ?_⟩
  refine for_range (fun i σ' H' => ∃ o, σ' = [some (.ref a), some v, o] ∧ Same H H' ∧ ∀ j s, j < i → ss[j]? = some s → fit s x = false) ⟨_, rfl, Same.refl H, fun j s hj => absurd hj (Nat.not_lt_zero j)⟩ ?_ ?_
  · rintro i σ' H' hi ⟨o, rfl, g, hb⟩
    have hi' : i < us.length := by omega
    have hk : (0 : Int) + (i : Int) = ((i : Nat) : Int) := by omega
    obtain ⟨s', hs', his⟩ := hus.mapGet (List.getElem?_eq_getElem hi')
    refine ⟨_, rfl, _, rfl, a, us, _, us[i], rfl, rfl, SqL.of (g _ _ ha), (by rw [hk]; exact atI_nat (List.getElem?_eq_getElem hi')), _, rfl, us[i], v, s', x, rfl, his.mono g, hv.mono g, hsz s' (List.mem_of_getElem? hs'), fun H2 g2 => ⟨_, rfl, iteB (fun c => ?_) (fun c => ?_)⟩⟩
    · refine ⟨_, rfl, ?_⟩
      have z := q H2 (g.trans g2)
      rw [first_some hb hs' c] at z
      have e : V.int (0 + (i : Int)) = vOpt (some i) := congrArg V.int hk
      show Q (V.int (0 + (i : Int))) H2
      rw [e]
      exact z
    · refine ⟨_, rfl, g.trans g2, fun j s hj hs => ?_⟩
      by_cases hji : j = i
      · subst hji
        rw [hs'] at hs
        cases hs
        exact c
      · exact hb j s (by omega) hs
  · rintro σ' H' ⟨o, rfl, g, hb⟩
    have z := q H' g
    rw [first_none (fun j s hs => hb j s (by have := (List.getElem?_eq_some_iff.mp hs).1; omega) hs)] at z
    exact z
theorem sc__law_flat_by : FnScope ["_law_cell", "_law_near"] ["_law_cell", "_law_near"] (defScope sFlat) := ⟨rfl, rfl, rfl, by decide +kernel, rfl, by decide +kernel, by decide +kernel⟩
theorem ok_flat (FN : FunAt K mg "_law_flat_by" sFlat ["_law_cell", "_law_near"]) (c__law_leaf_by : Callee P w K mg base 1 "_law_leaf_by" ["_law_cell"] spLeaf) : Callee P w K mg base 2 "_law_flat_by" ["_law_cell", "_law_near"] spRow := by
  refine FN.ok sc__law_flat_by (fun vs H Q E h => ?_) (fun f cdv A outer s H vs Q E hr h => ?_)
  · obtain ⟨c, d, rfl, _⟩ := h
    rfl
  obtain ⟨c, d, rfl, q⟩ := h
  refine ⟨_, ((pss_cons (ps_if (pt_cmpR op_eq (pe_op op_mod (pv 0) pe_int) pe_int (nomark _))
      (pss_one (ps_ret (pe_callC c__law_leaf_by hr rfl (pa_cons (pv 1) pa_nil)))) pss_nil)
    (pss_one (ps_ret (pe_tup (pa_cons pe_str (pa_cons (pe_callC c__law_leaf_by hr rfl (pa_cons (pv 0) pa_nil)) (pa_cons (pe_callC c__law_leaf_by hr rfl (pa_cons (pv 1) pa_nil)) pa_nil)))))))), ?_⟩
  refine ⟨_, rfl, _, _, rfl, rfl, (show (0 : Int) < 4 by decide), rfl, _, rfl, iteB (fun _ => ?_) (fun _ => ?_)⟩
  · refine ⟨_, rfl, _, rfl, fun r s' H' g i hl => ?_⟩
    have z := leaf_depth hl
    exact q r s' H' g i (by omega) (by omega)
  · refine ⟨_, rfl, _, rfl, fun r1 s1 H1 g1 i1 h1 => ⟨_, rfl, _, rfl, fun r2 s2 H2 g2 i2 h2 => ⟨lenOk rfl, fun p hp => ?_⟩⟩⟩
    have z1 := leaf_depth h1
    have z2 := leaf_depth h2
    have g3 := same_new hp (.tup [V.str "pair", r1, r2])
    refine q _ (.pair s1 s2) _ (g1.trans (g2.trans g3)) (.t3 upd_same (.str _) (i1.mono (g2.trans g3)) (i2.mono g3)) ?_ ?_
    · show s1.size + s2.size + 1 ≤ 3
      omega
    · show max (max 0 s1.d.depth) s2.d.depth + 1 ≤ 2
      omega
theorem sc__law_flat_rows : FnScope ["_law_cells", "_law_made", "_law_k"] ["_law_cells"] (defScope sFlatRows) := ⟨rfl, rfl, rfl, by decide +kernel, rfl, by decide +kernel, by decide +kernel⟩
theorem ok_flatRows (FN : FunAt K mg "_law_flat_rows" sFlatRows ["_law_cells"]) (B : Blt mg) (c__law_flat_by : Callee P w K mg base 2 "_law_flat_by" ["_law_cell", "_law_near"] spRow) : Callee P w K mg base 3 "_law_flat_rows" ["_law_cells"] (spRows K) := by
  refine FN.ok sc__law_flat_rows (fun vs H Q E h => ?_) (fun f cdv A outer s H vs Q E hr h => ?_)
  · obtain ⟨a, ns, rfl, _⟩ := h
    rfl
  obtain ⟨a, ns, rfl, hS, h63, q⟩ := h
  refine ⟨_, ((pss_cons (ps_set (i := 1) sc__law_flat_rows.nd rfl (Or.inl rfl) (pe_lst pa_nil))
    (pss_cons (ps_for PassesOwn.never rfl (pi_range02 rfl B.range_ (pa_cons pe_int (pa_cons (pe_op op_sub (pe_callB call_len_seq rfl B.len_ PySem.boot_len (pa_cons (pv 0) pa_nil)) pe_int) (pa_cons pe_int pa_nil)))) (pg_name (i := 2) sc__law_flat_rows.nd rfl (Or.inl rfl))
      (pss_one (ps_expr (pe_bm F.plainAttrs_list F.slot_list_append tyApp mt_append (pv 1) (pa_cons (pe_callC c__law_flat_by hr rfl (pa_cons (pe_op op_add (pe_ix ix_list (pv 0) (pv 2) (fun _ _ => rfl)) (pv 2)) (pa_cons (pe_ix ix_list (pv 0) (pe_op op_add (pv 2) pe_int) (fun _ _ => rfl)) pa_nil))) pa_nil)))))
    (pss_one (ps_ret (pv 1)))))), ?_⟩
  refine ⟨lenOk rfl, fun l hl => ?_⟩
  have g0 := same_new hl (.lst [])
  have hlm : (ns.map V.int).length = ns.length := List.length_map _
  refine ⟨_, rfl, a, _, rfl, .inl (g0.seq hS), _, _, rfl, rfl, _, rfl, by rw [hlm]; omega, by rw [hlm]; omega, ?_⟩
  refine for_2 (fun i σ' H' => ∃ us ss o, σ' = [some (.ref a), some (.ref l), o] ∧ H' l = some (.lst us) ∧ AllIs H' us (ss.map Sh.d) ∧ (∀ s ∈ ss, s.size ≤ 3 ∧ s.d.depth ≤ 2) ∧ us.length = i ∧ Same H H')
    ⟨[], [], _, rfl, upd_same, .nil, fun s hs => absurd hs (by simp), rfl, g0⟩ ?_ ?_
  · rintro i σ' H' hi ⟨us, ss, o, rfl, e, al, hb, hn, g⟩
    rw [hlm] at hi
    obtain ⟨n1, hn1⟩ := int_at (ns := ns) (i := 0 + (i : Int) * 2) (by omega) (by omega)
    obtain ⟨n2, hn2⟩ := int_at (ns := ns) (i := 0 + (i : Int) * 2 + 1) (by omega) (by omega)
    refine ⟨_, rfl, .inl ⟨rfl, us, SqL.of e⟩, _, rfl, _, rfl, a, _, _, _, rfl, rfl, g.seq hS, hn1, _, rfl, _, _, rfl, rfl, _, rfl, _, rfl, _, _, rfl, rfl, a, _, _, _, rfl, rfl, g.seq hS, hn2, _, _, rfl, fun r s' H2 g2 i2 b1 b2 => ?_⟩
    refine ⟨l, us, r, rfl, rfl, g2 _ _ e, lt_line (by omega), ?_⟩
    have t2 := tk_lst (ys := us ++ [r]) (g2 _ _ e)
    refine ⟨us ++ [r], ss ++ [s'], _, rfl, upd_same, ?_, fun k hk => ?_, by simp [hn], (g.trans g2).upd hl _⟩
    · rw [List.map_append]
      exact ((al.mono g2).tk t2).append (.cons (i2.tk t2) .nil)
    · rcases List.mem_append.mp hk with z | z
      · exact hb k z
      · cases List.mem_singleton.mp z
        exact ⟨b1, b2⟩
  · rintro σ' H' ⟨us, ss, o, rfl, e, al, hb, hn, g⟩
    exact ⟨_, rfl, q l us ss H' g hl e al hb (by rw [hlm] at hn; omega)⟩
theorem sc__law_all_values : FnScope ["_law_atoms", "_law_parts", "_law_made", "_law_one", "_law_two"] [] (defScope sAllV) := ⟨rfl, rfl, rfl, by decide +kernel, rfl, by decide +kernel, by decide +kernel⟩
theorem ok_allV (FN : FunAt K mg "_law_all_values" sAllV []) (B : Blt mg) : Callee P w K mg base 1 "_law_all_values" [] spVals := by
  refine FN.ok sc__law_all_values (fun vs H Q E h => ?_) (fun f cdv A outer s H vs Q E hr h => ?_)
  · obtain ⟨rfl, _⟩ := h
    rfl
  obtain ⟨rfl, q⟩ := h
  refine ⟨_, ((pss_cons (ps_set (i := 0) sc__law_all_values.nd rfl (Or.inl rfl) (lit_lst (al_int (al_neg (al_int (al_int (al_str (al_str (al_str all_nil)))))))))
    (pss_cons (ps_set (i := 1) sc__law_all_values.nd rfl (Or.inl rfl) (pe_op op_cat (pv 0) (lit_lst (al_t2 (al_str (al_int all_nil)) all_nil))))
    (pss_cons (ps_set (i := 2) sc__law_all_values.nd rfl (Or.inl rfl) (pe_callTy call_list_of rfl B.list_ PyProof.Rows.boot_list (pa_cons (pv 0) pa_nil)))
    (pss_cons (ps_for PassesOwn.never rfl (pi_list (pv 1)) (pg_name (i := 3) sc__law_all_values.nd rfl (Or.inl rfl))
      (pss_one (ps_for PassesOwn.never rfl (pi_list (pv 1)) (pg_name (i := 4) sc__law_all_values.nd rfl (Or.inl rfl))
        (pss_one (ps_expr (pe_bm F.plainAttrs_list F.slot_list_append tyApp mt_append (pv 2) (pa_cons (pe_tup (pa_cons (pv 3) (pa_cons (pv 4) pa_nil))) pa_nil)))))))
    (pss_one (ps_ret (pv 2)))))))), ?_⟩
  intro l1 v1 H1 g1 e1 i1
  refine ⟨_, rfl, fun l2 v2 H2 g2 e2 i2 => ?_⟩
  have n1 := i1.len
  have n2 := i2.len
  refine ⟨l1, l2, v1, v2, rfl, rfl, g2 _ _ e1, e2, lenOk (by rw [n1, n2]; rfl), fun l3 hl3 => ?_⟩
  have g3 := same_new hl3 (.lst (v1 ++ v2))
  refine ⟨_, rfl, l1, v1, rfl, .inl (SqL.of (g3 _ _ (g2 _ _ e1))), fun l4 hl4 => ?_⟩
  have g4 := same_new hl4 (.lst v1)
  have gA := g1.trans (g2.trans (g3.trans g4))
  have hl4' : H l4 = none := (g1.trans (g2.trans g3)).free hl4
  have ePar := g4 _ _ (upd_same (H := H2) (a := l3) (o := .lst (v1 ++ v2)))
  have a1 : ∃ xs : List Va, AllIs (upd (upd H2 l3 (.lst (v1 ++ v2))) l4 (.lst v1)) v1 (xs.map Va.d) ∧ (∀ x ∈ xs, x.d.depth ≤ 3) ∧ v1.length = 7 :=
    ⟨[.int 0, .int (-1), .int 1000000000000, .int 5, .str "", .str "b", .str "ab"], (i1.mono (g2.trans (g3.trans g4))), by decide, by rw [n1]; rfl⟩
  have a2 : ∃ xs : List Va, AllIs (upd (upd H2 l3 (.lst (v1 ++ v2))) l4 (.lst v1)) (v1 ++ v2) (xs.map Va.d) ∧ (∀ x ∈ xs, x.d.depth ≤ 1) ∧ (v1 ++ v2).length = 8 :=
    ⟨[.int 0, .int (-1), .int 1000000000000, .int 5, .str "", .str "b", .str "ab", .pr (.str "b") (.int 5)], ((i1.mono g2).append i2).mono (g3.trans g4), by decide, by rw [List.length_append, n1, n2]; rfl⟩
  have hne : l3 ≠ l4 := ne_of_none upd_same hl4
  have eM : upd (upd H2 l3 (.lst (v1 ++ v2))) l4 (.lst v1) l4 = some (.lst v1) := upd_same
  generalize upd (upd H2 l3 (.lst (v1 ++ v2))) l4 (.lst v1) = Hb at gA ePar a1 a2 eM ⊢
  obtain ⟨xa, ia, da, na⟩ := a1
  obtain ⟨xp, ip, dp, np⟩ := a2
  generalize v1 ++ v2 = vp at ePar ip np ⊢
  refine ⟨_, rfl, l3, rfl, ⟨_, SqL.of ePar⟩, for_list (xs := vp) (fun i σ' H' => ∃ o1 o2, σ' = [some (.ref l1), some (.ref l3), some (.ref l4), o1, o2] ∧ Grown H Hb l4 (8 * i) H') ⟨_, _, rfl, v1, xa, eM, ia, da, na, gA, fun _ _ _ z => z⟩ (fun i σ' H' _ z => ?_) (fun i x1 σ' H' hx z => ?_) (fun σ' H' z => ?_)⟩
  · obtain ⟨o1, o2, _, us, xs, _, _, _, _, _, kp⟩ := z
    exact SqL.of (kp _ _ hne ePar)
  · obtain ⟨o1, o2, rfl, us0, xs0, e0, i0, d0, n0, s0, k0⟩ := z
    obtain ⟨y1, hy1, iy1⟩ := ip.mapGet hx
    have hd1 := dp y1 (List.mem_of_getElem? hy1)
    refine ⟨_, rfl, l3, rfl, ⟨_, SqL.of (k0 _ _ hne ePar)⟩, for_list (xs := vp) (fun j σ' H' => ∃ o2, σ' = [some (.ref l1), some (.ref l3), some (.ref l4), some x1, o2] ∧ Grown H Hb l4 (8 * i + j) H') ⟨_, rfl, us0, xs0, e0, i0, d0, n0, s0, k0⟩ (fun j σ' H' _ z => ?_) (fun j x2 σ' H' hx2 z => ?_) (fun σ' H' z => ?_)⟩
    · obtain ⟨o2, _, us, xs, _, _, _, _, _, kp⟩ := z
      exact SqL.of (kp _ _ hne ePar)
    · obtain ⟨o2, rfl, us, xs, e, al, dd, nn, ss, kp⟩ := z
      obtain ⟨y2, hy2, iy2⟩ := ip.mapGet hx2
      have hd2 := dp y2 (List.mem_of_getElem? hy2)
      have hi8 : i < 8 := by have := (List.getElem?_eq_some_iff.mp hx).1; omega
      have hj8 : j < 8 := by have := (List.getElem?_eq_some_iff.mp hx2).1; omega
      refine ⟨_, rfl, .inl ⟨rfl, us, SqL.of e⟩, _, rfl, _, rfl, lenOk rfl, fun p hp => ?_⟩
      have gp := same_new hp (.tup [x1, x2])
      refine ⟨l4, us, _, rfl, rfl, gp _ _ e, lt_line (by omega), ?_⟩
      have t2 := tk_lst (ys := us ++ [.ref p]) (gp _ _ e)
      have up : ∀ {v : V} {d : D}, Is Hb v d → Is (upd (upd H' p (.tup [x1, x2])) l4 (.lst (us ++ [.ref p]))) v d := fun {v d} h => ((h.tk fun b zs z => kp b _ (ne_of z eM (by intro k; cases k)) z).mono gp).tk t2
      refine ⟨_, rfl, us ++ [.ref p], xs ++ [.pr y1 y2], upd_same, ?_, fun k hk => ?_, by simp; omega, (ss.trans gp).upd hl4' _, fun b o hb z => ?_⟩
      · rw [List.map_append]
        exact ((al.mono gp).tk t2).append (.cons (.t2 (t2 _ _ upd_same) (up iy1) (up iy2)) .nil)
      · rcases List.mem_append.mp hk with z | z
        · exact dd k z
        · cases List.mem_singleton.mp z
          show max y1.d.depth y2.d.depth + 1 ≤ 3
          omega
      · rw [upd_ne hb]
        rw [upd_ne (ne_of_none (kp b o hb z) hp)]
        exact kp b o hb z
    · obtain ⟨o2, rfl, us, xs, e, al, dd, nn, ss, kp⟩ := z
      exact ⟨_, _, rfl, us, xs, e, al, dd, by omega, ss, kp⟩
  · obtain ⟨o1, o2, rfl, us, xs, e, al, dd, nn, ss, kp⟩ := z
    exact ⟨_, rfl, q l4 us xs H' ss hl4' e al dd (by omega)⟩
end
end ST
set_option Elab.async false
set_option linter.all false
set_option maxRecDepth 100000
set_option maxHeartbeats 4000000
namespace ST
variable [TN]
open PySem L2
noncomputable def kindsV : List V := [.str "number", .str "text", .str "pair"]
structure Kns (K : PySem.W.Frag) (mg : Str → Option Value) (kk : Addr) : Prop where
  at_ : mg "KINDS" = some (.ref kk)
  sq : ∀ H : Hp, SqT K H kk kindsV
noncomputable def spOutS : Sp := fun vs H Q _ => ∃ v s, vs = [v] ∧ Is H v (Sh.d s) ∧ ∀ H', Same H H' → Q (.bl true) H'
theorem kit_is_int (K : PySem.W.Frag) : PySem.W.kitAny K (.type "int") (["int", "str"].map Value.type) = some true := by
  have h := kit_same K "int"
  simp only [List.map_cons, PySem.W.kitAny, h]
theorem kit_is_str (K : PySem.W.Frag) : PySem.W.kitAny K (.type "str") (["int", "str"].map Value.type) = some true := by
  have h := kit_same K "str"
  have h2 := kit_str_int K
  simp only [List.map_cons, PySem.W.kitAny, h, h2]
theorem dsN {a b : String} (h : (Str.ofString a == Str.ofString b) = false) : decide (V.str (Str.ofString a) = V.str (Str.ofString b)) = false := by
  refine decide_eq_false fun z => ?_
  injection z with z
  rw [z, beq_self_eq_true] at h
  cases h
theorem dsY {a : Str} : decide (V.str a = V.str a) = true := decide_eq_true rfl
theorem in_kinds (k : Kd) : inV (.str k.word) kindsV = true := by cases k <;> decide +kernel
seal L2.PE L2.PA L2.PS L2.PSs L2.PT L2.PW L2.PG L2.PGs L2.PI
section
variable {P : Program} {w : World} {K : PySem.W.Frag} {mg : Str → Option Value} {base : Heap}
theorem sc_is_shape_outside : FnScope ["shape", "word"] ["shape"] (defScope s_is_shape_outside) := ⟨rfl, rfl, rfl, by decide +kernel, rfl, by decide +kernel, by decide +kernel⟩
theorem ok_outS {kk : Addr} (FN : FunAt K mg "is_shape_outside" s_is_shape_outside ["shape"]) (B : Blt mg) (KN : Kns K mg kk) : Callee P w K mg base 1 "is_shape_outside" ["shape"] spOutS := by
  refine FN.ok sc_is_shape_outside (fun vs H Q E h => ?_) (fun f cdv A outer s H vs Q E hr h => ?_)
  · obtain ⟨v, sh, rfl, _⟩ := h
    rfl
  obtain ⟨v, sh, rfl, hv, q⟩ := h
  have hK := KN.at_
  refine ⟨_, ((pss_cons (ps_if (PW.pt (pw_or (pt_not (pt_val (pe_callB call_inst rfl B.isinstance_ PyProof.Rows.boot_isinstance (pa_cons (pv 0) (pa_cons (pe_bltn (v := .ty "tuple") rfl B.tuple_ PyProof.Rows.boot_tuple rfl) pa_nil))))) (pw_or1 (pt_cmpR op_eq (pe_callB call_len_seq rfl B.len_ PySem.boot_len (pa_cons (pv 0) pa_nil)) pe_int (nomark _)))))
      (pss_one (ps_ret pe_bl)) pss_nil)
    (pss_cons (ps_set (i := 1) sc_is_shape_outside.nd rfl (Or.inl rfl) (pe_ix ix_tup (pv 0) pe_int (fun _ _ => rfl)))
    (pss_cons (ps_if (pt_cmpR op_eq (pv 1) pe_str (nomark _))
      (pss_one (ps_ret (pe_and (pe_cmpR op_eq (pe_callB call_len_seq rfl B.len_ PySem.boot_len (pa_cons (pv 0) pa_nil)) pe_int (nomark _)) (pe_one (pe_cmpR op_in_seq (pe_ix ix_tup (pv 0) pe_int (fun _ _ => rfl)) (pe_glob (v := .ref kk) rfl hK rfl) (by with_unfolding_all rfl)))))) pss_nil)
    (pss_cons (ps_if (pt_cmpR op_eq (pv 1) pe_str (nomark _))
      (pss_one (ps_ret (pe_and (pe_cmpR op_eq (pe_callB call_len_seq rfl B.len_ PySem.boot_len (pa_cons (pv 0) pa_nil)) pe_int (nomark _)) (pe_one (pe_callB call_instT rfl B.isinstance_ PyProof.Rows.boot_isinstance (pa_cons (pe_ix ix_tup (pv 0) pe_int (fun _ _ => rfl)) (pa_cons (pe_tup (pa_cons (pe_bltn (v := .ty "int") rfl B.int_ PyProof.Rows.boot_int rfl) (pa_cons (pe_bltn (v := .ty "str") rfl B.str_ PyProof.Rows.boot_str rfl) pa_nil))) pa_nil))))))) pss_nil)
    (pss_cons (ps_if (pt_cmpR op_eq (pv 1) pe_str (nomark _))
      (pss_one (ps_ret (pe_cmpR op_eq (pe_callB call_len_seq rfl B.len_ PySem.boot_len (pa_cons (pv 0) pa_nil)) pe_int (nomark _)))) pss_nil)
    (pss_one (ps_ret (pe_and (pe_cmpR op_eq (pv 1) pe_str (nomark _)) (pe_one (pe_cmpR op_eq (pe_callB call_len_seq rfl B.len_ PySem.boot_len (pa_cons (pv 0) pa_nil)) pe_int (nomark _)))))))))))), ?_⟩
  cases sh with
  | any =>
    obtain ⟨p, u, rfl, e, hu⟩ := is_t1 hv
    cases is_str hu
    refine ⟨_, rfl, _, _, _, _, rfl, .tup e, kit_same K "tuple", _, rfl, iteF' rfl ⟨_, rfl, p, _, rfl, .inr (SqT.of e), rfl, _, rfl, iteF' rfl ?_⟩⟩
    refine ⟨_, rfl, p, _, _, _, rfl, rfl, SqT.of e, rfl, ?_⟩
    refine ⟨_, rfl, rfl, _, rfl, iteF' (dsN (by decide +kernel)) ?_⟩
    refine ⟨_, rfl, rfl, _, rfl, iteF' (dsN (by decide +kernel)) ?_⟩
    refine ⟨_, rfl, rfl, _, rfl, iteF' (dsN (by decide +kernel)) ?_⟩
    refine ⟨_, rfl, rfl, _, rfl, iteT' dsY ?_⟩
    exact ⟨_, rfl, p, _, rfl, .inr (SqT.of e), rfl, q H (Same.refl H)⟩
  | kind k =>
    obtain ⟨p, u, z, rfl, e, hu, hz⟩ := is_t2 hv
    cases is_str hu
    cases is_str hz
    refine ⟨_, rfl, _, _, _, _, rfl, .tup e, kit_same K "tuple", _, rfl, iteF' rfl ⟨_, rfl, p, _, rfl, .inr (SqT.of e), rfl, _, rfl, iteF' rfl ?_⟩⟩
    refine ⟨_, rfl, p, _, _, _, rfl, rfl, SqT.of e, rfl, ?_⟩
    refine ⟨_, rfl, rfl, _, rfl, iteT' dsY ?_⟩
    refine ⟨_, rfl, p, _, rfl, .inr (SqT.of e), rfl, _, rfl, iteT' rfl ?_⟩
    refine ⟨_, rfl, p, _, _, _, rfl, rfl, SqT.of e, rfl, kk, kindsV, rfl, .inr (KN.sq H), rfl, rfl, ?_⟩
    rw [in_kinds]
    exact q H (Same.refl H)
  | si i =>
    obtain ⟨p, u, z, rfl, e, hu, hz⟩ := is_t2 hv
    cases is_str hu
    cases is_int hz
    refine ⟨_, rfl, _, _, _, _, rfl, .tup e, kit_same K "tuple", _, rfl, iteF' rfl ⟨_, rfl, p, _, rfl, .inr (SqT.of e), rfl, _, rfl, iteF' rfl ?_⟩⟩
    refine ⟨_, rfl, p, _, _, _, rfl, rfl, SqT.of e, rfl, ?_⟩
    refine ⟨_, rfl, rfl, _, rfl, iteF' (dsN (by decide +kernel)) ?_⟩
    refine ⟨_, rfl, rfl, _, rfl, iteT' dsY ?_⟩
    refine ⟨_, rfl, p, _, rfl, .inr (SqT.of e), rfl, _, rfl, iteT' rfl ?_⟩
    refine ⟨_, rfl, p, _, _, _, rfl, rfl, SqT.of e, rfl, lenOk rfl, fun tp htp => ?_⟩
    exact ⟨_, tp, ["int", "str"], _, _, rfl, upd_same, .int i, kit_is_int K, q _ (same_new htp _)⟩
  | ss i =>
    obtain ⟨p, u, z, rfl, e, hu, hz⟩ := is_t2 hv
    cases is_str hu
    cases is_str hz
    refine ⟨_, rfl, _, _, _, _, rfl, .tup e, kit_same K "tuple", _, rfl, iteF' rfl ⟨_, rfl, p, _, rfl, .inr (SqT.of e), rfl, _, rfl, iteF' rfl ?_⟩⟩
    refine ⟨_, rfl, p, _, _, _, rfl, rfl, SqT.of e, rfl, ?_⟩
    refine ⟨_, rfl, rfl, _, rfl, iteF' (dsN (by decide +kernel)) ?_⟩
    refine ⟨_, rfl, rfl, _, rfl, iteT' dsY ?_⟩
    refine ⟨_, rfl, p, _, rfl, .inr (SqT.of e), rfl, _, rfl, iteT' rfl ?_⟩
    refine ⟨_, rfl, p, _, _, _, rfl, rfl, SqT.of e, rfl, lenOk rfl, fun tp htp => ?_⟩
    exact ⟨_, tp, ["int", "str"], _, _, rfl, upd_same, .str i, kit_is_str K, q _ (same_new htp _)⟩
  | pair a b =>
    obtain ⟨p, u, z, y, rfl, e, hu, hz, hy⟩ := is_t3 hv
    cases is_str hu
    refine ⟨_, rfl, _, _, _, _, rfl, .tup e, kit_same K "tuple", _, rfl, iteF' rfl ⟨_, rfl, p, _, rfl, .inr (SqT.of e), rfl, _, rfl, iteF' rfl ?_⟩⟩
    refine ⟨_, rfl, p, _, _, _, rfl, rfl, SqT.of e, rfl, ?_⟩
    refine ⟨_, rfl, rfl, _, rfl, iteF' (dsN (by decide +kernel)) ?_⟩
    refine ⟨_, rfl, rfl, _, rfl, iteF' (dsN (by decide +kernel)) ?_⟩
    refine ⟨_, rfl, rfl, _, rfl, iteT' dsY ?_⟩
    exact ⟨_, rfl, p, _, rfl, .inr (SqT.of e), rfl, q H (Same.refl H)⟩
end
end ST
set_option Elab.async false
set_option linter.all false
set_option maxRecDepth 100000
set_option maxHeartbeats 4000000
namespace ST
variable [TN]
open PySem L2
noncomputable def spNeeds (P : Program) (w : World) : Sp := fun vs H Q _ => ∃ v s, vs = [v] ∧ Is H v (Sh.d s) ∧ s.size ≤ 100 ∧ ∀ r H', Same H H' → NsIs P w H' r (needsOf s []) → Q r H'
noncomputable def WIs (H H' : Hp) (v : V) (e : List Bool × Sh) : Prop := ∃ a b u, v = .ref a ∧ H' a = some (.tup [.ref b, u]) ∧ H' b = some (.tup (e.1.map bit)) ∧ Is H u (Sh.d e.2)
theorem WIs.tk {H H1 H2 : Hp} (g : ∀ b xs, H1 b = some (.tup xs) → H2 b = some (.tup xs)) {v : V} {e : List Bool × Sh} (h : WIs H H1 v e) : WIs H H2 v e := by
  obtain ⟨a, b, u, e1, h1, h2, h3⟩ := h
  exact ⟨a, b, u, e1, g _ _ h1, g _ _ h2, h3⟩
theorem QD.tk {P : Program} {w : World} {H H' : Hp} {d : Addr} {kvs : List (Qn × V)} (hd : H' d = H d) (g : ∀ b xs, H b = some (.tup xs) → H' b = some (.tup xs)) (h : QD P w H d kvs) : QD P w H' d kvs := by
  obtain ⟨ep, xs, e, r, k⟩ := h
  exact ⟨ep, xs, hd.trans e, r, fun x hx => (k x hx).tk g⟩
theorem prd_snoc_inv {α β : Type} {F : α → β → Prop} {ys : List α} {zs : List β} {z : β} (h : Paired F ys (zs ++ [z])) : ∃ ys' y, ys = ys' ++ [y] ∧ Paired F ys' zs ∧ F y z := by
  have hl := prd_len h
  rw [List.length_append] at hl
  have hne : ys ≠ [] := fun e => by rw [e] at hl; simp at hl
  refine ⟨ys.dropLast, ys.getLast hne, (List.dropLast_concat_getLast hne).symm, ?_, ?_⟩
  · have t := prd_take h zs.length
    rw [List.take_append_of_le_length (Nat.le_refl _), List.take_length] at t
    rw [List.dropLast_eq_take, hl]
    simpa using t
  · obtain ⟨y, hy, f⟩ := prd_at h (i := zs.length) (y := z) (by simp)
    have : ys.getLast hne = y := by
      rw [List.getLast_eq_getElem]
      have h2 := (List.getElem?_eq_some_iff.mp hy).2
      rw [← h2]
      congr 1
      simp at hl; omega
    rw [this]
    exact f
noncomputable def pend (st : List (List Bool × Sh)) : Needs := st.flatMap fun e => needsOf e.2 e.1
theorem pend_cons (e : List Bool × Sh) (st : List (List Bool × Sh)) : pend (e :: st) = needsOf e.2 e.1 ++ pend st := by simp [pend]
noncomputable def wsz (st : List (List Bool × Sh)) : Nat := (st.map fun e => e.2.size).sum
theorem wsz_cons (e : List Bool × Sh) (st : List (List Bool × Sh)) : wsz (e :: st) = e.2.size + wsz st := by simp [wsz]
theorem wsz_len : ∀ st : List (List Bool × Sh), st.length ≤ wsz st
  | [] => Nat.zero_le _
  | e :: t => by rw [wsz_cons, List.length_cons]; have := wsz_len t; have := e.2.size_pos; omega
theorem nd_mid {ns rest : Needs} {q : Qn} {a : At} (h : (nkeys (ns ++ (q, a) :: rest)).Nodup) : q ∉ nkeys ns := by
  unfold nkeys at h ⊢
  rw [List.map_append, List.nodup_append] at h
  intro m
  exact h.2.2 q m q (by simp) rfl
theorem needs_len : ∀ (s : Sh) (p : List Bool), (needsOf s p).length ≤ 2 * s.size
  | .any, _ => by simp [needsOf, Sh.size]
  | .kind _, _ => by simp [needsOf, Sh.size]
  | .si _, _ => by simp [needsOf, Sh.size]
  | .ss _, _ => by simp [needsOf, Sh.size]
  | .pair a b, p => by
    have h1 := needs_len a (p ++ [false])
    have h2 := needs_len b (p ++ [true])
    show (needsOf a (p ++ [false]) ++ needsOf b (p ++ [true])).length + 1 ≤ 2 * (a.size + b.size + 1)
    rw [List.length_append]
    omega
theorem plus_bit {K : PySem.W.Frag} {b : Addr} {p : List Bool} {H1 : Hp} {R : VK} (c : Bool) (hp : p.length ≤ 900) (h2 : H1 b = some (.tup (p.map bit))) (hR : ∀ x H2, Same H1 H2 → (∃ m, x = .ref m ∧ H2 m = some (.tup ((p ++ [c]).map bit))) → R x H2) : ∀ z, H1 z = none → rPlus K (.ref b) (.ref z) (upd H1 z (.tup [.int (bitI c)])) R := fun z hz => by
  have lenP : (p.map bit).length = p.length := List.length_map _
  have gz := same_new hz (.tup [V.int (bitI c)])
  refine ⟨b, z, _, _, rfl, rfl, SqT.of (gz _ _ h2), SqT.of upd_same, by simp, lenOk2 (by rw [lenP]; simp; omega), fun hx => ?_, fun hx m hm => ?_⟩
  · have hp0 : p = [] := List.map_eq_nil_iff.mp hx
    subst hp0
    exact hR _ _ gz ⟨z, rfl, upd_same⟩
  · refine hR _ _ (gz.trans (same_new hm _)) ⟨m, rfl, ?_⟩
    rw [upd_same, List.map_append]
    rfl
structure Wt (P : Program) (w : World) (H H' : Hp) (dn lw : Addr) (s0 : Sh) (st : List (List Bool × Sh)) : Prop where
  same : Same H H'
  nd : H dn = none
  nw : H lw = none
  ne : dn ≠ lw
  ns : ∃ ns, QD P w H' dn (nv ns) ∧ ns ++ pend st = needsOf s0 []
  wt : ∃ ys, H' lw = some (.lst ys) ∧ Paired (WIs H H') ys st.reverse
  fit : ∀ e ∈ st, e.1.length + e.2.size ≤ s0.size
  sz : wsz st ≤ s0.size
structure Mid (P : Program) (w : World) (H H' : Hp) (dn lw b : Addr) (p : List Bool) (ys : List V) (st : List (List Bool × Sh)) (ns : Needs) : Prop where
  same : Same H H'
  qd : QD P w H' dn (nv ns)
  wt : H' lw = some (.lst ys)
  ws : Paired (WIs H H') ys st.reverse
  pl : H' b = some (.tup (p.map bit))
theorem Mid.go {P : Program} {w : World} {H H' H2 : Hp} {dn lw b : Addr} {p : List Bool} {ys : List V} {st : List (List Bool × Sh)} {ns : Needs} (M : Mid P w H H' dn lw b p ys st ns) (g : Same H' H2) : Mid P w H H2 dn lw b p ys st ns :=
  ⟨M.same.trans g, M.qd.mono g, g _ _ M.wt, prd_imp M.ws fun _ _ z => z.tk (tk_of g), g _ _ M.pl⟩
theorem Mid.put {P : Program} {w : World} {H H' : Hp} {dn lw b : Addr} {p : List Bool} {ys : List V} {st : List (List Bool × Sh)} {ns : Needs} (M : Mid P w H H' dn lw b p ys st ns) (hdn : H dn = none) (hne : dn ≠ lw) {q : Qn} {a : At} {R : Hp → Prop} (hq : q ∉ nkeys ns) (hp : q.pl = p) (hn : ns.length ≤ 900)
    (hR : ∀ H2, Mid P w H H2 dn lw b p ys st (ns ++ [(q, a)]) → R H2) : ∀ tq, H' tq = none → rSetQ P w (.ref dn) (.ref tq) a.v (upd H' tq (.tup [.str q.word, .ref b])) R := fun tq htq => by
  have gt := same_new htq (.tup [V.str q.word, V.ref b])
  have M1 := M.go gt
  obtain ⟨ep, xs, e, r, k⟩ := M1.qd
  have kb : QIs (upd H' tq (.tup [V.str q.word, V.ref b])) (.ref tq) q := ⟨tq, b, rfl, upd_same, by rw [hp]; exact M1.pl⟩
  refine ⟨dn, tq, ep, xs, q, rfl, rfl, e, k, kb, lt_line (by rw [(nv_prj r).1]; omega), fun ep' => hR _ ?_⟩
  have tk := tk_dQ e (dQ P w dn ep' (putQ xs q tq a.v))
  exact ⟨M1.same.upd hdn _ (notf e), qd_put e r k kb hq, by rw [upd_ne hne.symm]; exact M1.wt, prd_imp M1.ws fun _ _ z => z.tk tk, tk _ _ M1.pl⟩
theorem Mid.push {P : Program} {w : World} {H H' : Hp} {dn lw b : Addr} {p : List Bool} {ys : List V} {st : List (List Bool × Sh)} {ns : Needs} (M : Mid P w H H' dn lw b p ys st ns) (hw : H lw = none) (hne : dn ≠ lw) (e : List Bool × Sh) {t m : Addr} {u : V} (ht : H' t = some (.tup [.ref m, u])) (hm : H' m = some (.tup (e.1.map bit))) (hu : Is H u (Sh.d e.2)) :
    Mid P w H (upd H' lw (.lst (ys ++ [.ref t]))) dn lw b p (ys ++ [.ref t]) (e :: st) ns := by
  have tk := tk_lst (ys := ys ++ [.ref t]) M.wt
  refine ⟨M.same.upd hw _ (notf M.wt), M.qd.tk (upd_ne hne) tk, upd_same, ?_, tk _ _ M.pl⟩
  rw [List.reverse_cons]
  exact prd_app (prd_imp M.ws fun _ _ z => z.tk tk) (.cons ⟨t, m, u, rfl, tk _ _ ht, tk _ _ hm, hu⟩ .nil)
seal L2.PE L2.PA L2.PS L2.PSs L2.PT L2.PW L2.PG L2.PGs L2.PI
section
variable {P : Program} {w : World} {K : PySem.W.Frag} {mg : Str → Option Value} {base : Heap}
theorem sc_needs_of : FnScope ["shape", "needs", "waiting", "held", "place", "asked"] ["shape"] (defScope s_needs_of) := ⟨rfl, rfl, rfl, by decide +kernel, rfl, by decide +kernel, by decide +kernel⟩
theorem ok_needs (FN : FunAt K mg "needs_of" s_needs_of ["shape"]) (B : Blt mg) (c_is_shape_outside : Callee P w K mg base 1 "is_shape_outside" ["shape"] spOutS) (c_kind_of : Callee P w K mg base 1 "kind_of" ["value"] spKind) : Callee P w K mg base 2 "needs_of" ["shape"] (spNeeds P w) := by
  refine FN.ok sc_needs_of (fun vs H Q E h => ?_) (fun f cdv A outer s H vs Q E hr h => ?_)
  · obtain ⟨v, sh, rfl, _⟩ := h
    rfl
  obtain ⟨v, s0, rfl, hv, h100, q⟩ := h
  refine ⟨_, ((pss_cons (ps_set (i := 1) sc_needs_of.nd rfl (Or.inl rfl) pe_qnew)
    (pss_cons (ps_set (i := 2) sc_needs_of.nd rfl (Or.inl rfl) (pe_lst (pa_cons (pe_tup (pa_cons (pe_tup pa_nil) (pa_cons (pv 0) pa_nil))) pa_nil)))
    (pss_cons (ps_while PassesOwn.never (pt_truth (pv 2) (fun _ => rfl))
      (pss_cons (ps_set (i := 3) sc_needs_of.nd rfl (Or.inl rfl) (pe_bm0 F.plainAttrs_list F.slot_list_pop tyPop mt_pop (pv 2)))
      (pss_cons (ps_set (i := 4) sc_needs_of.nd rfl (Or.inl rfl) (pe_ix ix_tup (pv 3) pe_int (fun _ _ => rfl)))
      (pss_cons (ps_set (i := 5) sc_needs_of.nd rfl (Or.inl rfl) (pe_ix ix_tup (pv 3) pe_int (fun _ _ => rfl)))
      (pss_cons (ps_if (pt_not (pt_val (pe_callC c_is_shape_outside hr rfl (pa_cons (pv 5) pa_nil)))) pss_never pss_nil)
      (pss_cons (ps_if (pt_cmpR op_eq (pe_ix ix_tup (pv 5) pe_int (fun _ _ => rfl)) pe_str (nomark _))
        (pss_one (ps_asg (pe_ix ix_tup (pv 5) pe_int (fun _ _ => rfl)) (pg_sub (pv 1) (pe_tup (pa_cons pe_str (pa_cons (pv 4) pa_nil))) (set_q (hu2_of hr))))) pss_nil)
      (pss_cons (ps_if (pt_cmpR op_eq (pe_ix ix_tup (pv 5) pe_int (fun _ _ => rfl)) pe_str (nomark _))
        (pss_cons (ps_asg (pe_callC c_kind_of hr rfl (pa_cons (pe_ix ix_tup (pv 5) pe_int (fun _ _ => rfl)) pa_nil)) (pg_sub (pv 1) (pe_tup (pa_cons pe_str (pa_cons (pv 4) pa_nil))) (set_q (hu2_of hr))))
        (pss_one (ps_asg (pe_ix ix_tup (pv 5) pe_int (fun _ _ => rfl)) (pg_sub (pv 1) (pe_tup (pa_cons pe_str (pa_cons (pv 4) pa_nil))) (set_q (hu2_of hr)))))) pss_nil)
      (pss_one (ps_if (pt_cmpR op_eq (pe_ix ix_tup (pv 5) pe_int (fun _ _ => rfl)) pe_str (nomark _))
        (pss_cons (ps_asg pe_str (pg_sub (pv 1) (pe_tup (pa_cons pe_str (pa_cons (pv 4) pa_nil))) (set_q (hu2_of hr))))
        (pss_cons (ps_expr (pe_bm F.plainAttrs_list F.slot_list_append tyApp mt_append (pv 2) (pa_cons (pe_tup (pa_cons (pe_op op_plus (pv 4) (pe_tup (pa_cons pe_int pa_nil))) (pa_cons (pe_ix ix_tup (pv 5) pe_int (fun _ _ => rfl)) pa_nil))) pa_nil)))
        (pss_one (ps_expr (pe_bm F.plainAttrs_list F.slot_list_append tyApp mt_append (pv 2) (pa_cons (pe_tup (pa_cons (pe_op op_plus (pv 4) (pe_tup (pa_cons pe_int pa_nil))) (pa_cons (pe_ix ix_tup (pv 5) pe_int (fun _ _ => rfl)) pa_nil))) pa_nil)))))) pss_nil)))))))))
    (pss_one (ps_ret (pv 1))))))), ?_⟩
  intro dn ep hdn
  refine ⟨lenOk rfl, fun l0 hl0 => ⟨_, rfl, lenOk rfl, fun t0 ht0 => ⟨lenOk rfl, fun lw hlw => ?_⟩⟩⟩
  have ga := same_new hdn (dQ P w dn ep [])
  have gb := same_new hl0 (.tup [])
  have gc := same_new ht0 (.tup [V.ref l0, v])
  have gd := same_new hlw (.lst [V.ref t0])
  refine ⟨fun m σ H' => ∃ o3 o4 o5 st, σ = [some v, some (.ref dn), some (.ref lw), o3, o4, o5] ∧ Wt P w H H' dn lw s0 st ∧ m = wsz st, ⟨_, _, _, _, [([], s0)], rfl, ⟨ga.trans (gb.trans (gc.trans gd)), hdn, ga.free (gb.free (gc.free hlw)), ?_, ⟨[], ⟨ep, [], ?_, rfl, fun x hx => by simp at hx⟩, ?_⟩, ⟨_, upd_same, .cons ⟨t0, l0, v, rfl, ?_, ?_, hv⟩ .nil⟩, fun e he => ?_, by simp [wsz]⟩, rfl⟩, ?_⟩
  · exact ne_of_none ((gb.trans gc) _ _ upd_same) hlw
  · exact (gb.trans (gc.trans gd)) _ _ upd_same
  · show [] ++ pend [([], s0)] = _
    rw [pend_cons]; simp [pend]
  · exact gd _ _ upd_same
  · exact (gc.trans gd) _ _ upd_same
  · have : e = ([], s0) := by simpa using he
    rw [this]; simp
  rintro m σ H0 ⟨o3, o4, o5, st, rfl, W, rfl⟩
  obtain ⟨ns, qd, hns⟩ := W.ns
  obtain ⟨ys, ew, hys⟩ := W.wt
  refine ⟨_, rfl, !ys.isEmpty, .inl ⟨_, SqL.of ew, rfl⟩, ?_⟩
  cases st with
  | nil =>
    cases hys
    refine iteF' rfl ⟨_, rfl, q _ _ W.same ⟨dn, rfl, ?_⟩⟩
    rw [show pend ([] : List (List Bool × Sh)) = [] from rfl, List.append_nil] at hns
    rw [← hns]
    exact qd
  | cons e st =>
    obtain ⟨p, sh⟩ := e
    rw [List.reverse_cons] at hys
    obtain ⟨ys', y, rfl, hys', a, b, u, rfl, ha, hb, hu⟩ := prd_snoc_inv hys
    refine iteT' (by simp) ⟨_, fun σ1 H1 z => z, ?_⟩
    refine ⟨_, rfl, .inl ⟨rfl, _, SqL.of ew⟩, lw, ys' ++ [.ref a], .ref a, rfl, rfl, ew, by simp, ?_⟩
    rw [List.dropLast_concat]
    have t1 := tk_lst (ys := ys') ew
    have M : Mid P w H (upd H0 lw (.lst ys')) dn lw b p ys' st ns := ⟨W.same.upd W.nw _, qd.tk (upd_ne W.ne) t1, upd_same, prd_imp hys' fun _ _ z => z.tk t1, t1 _ _ hb⟩
    have ha1 := t1 _ _ ha
    have hfit := W.fit (p, sh) List.mem_cons_self
    have hfit : p.length + sh.size ≤ s0.size := hfit
    rw [pend_cons] at hns
    have hnd : (nkeys (needsOf s0 [])).Nodup := needs_nd s0 []
    have hnl := needs_len s0 []
    have hnl2 := congrArg List.length hns
    rw [List.length_append] at hnl2
    generalize upd H0 lw (.lst ys') = H1 at M ha1
    refine ⟨_, rfl, a, _, _, _, rfl, rfl, SqT.of ha1, rfl, ?_⟩
    refine ⟨_, rfl, a, _, _, _, rfl, rfl, SqT.of ha1, rfl, ?_⟩
    refine ⟨_, rfl, u, sh, rfl, hu.mono M.same, fun H2 g2 => ⟨_, rfl, iteF' rfl ?_⟩⟩
    replace M := M.go g2
    have goal : ∀ (H3 : Hp) (ns' : Needs), Mid P w H H3 dn lw b p ys' st ns' → ns' ++ pend st = needsOf s0 [] → (∃ m', m' < wsz ((p, sh) :: st) ∧ ∃ o3 o4 o5 st', [some v, some (V.ref dn), some (V.ref lw), some (V.ref a), some (V.ref b), some u] = [some v, some (.ref dn), some (.ref lw), o3, o4, o5] ∧ Wt P w H H3 dn lw s0 st' ∧ m' = wsz st') := fun H3 ns' M3 e3 =>
      ⟨wsz st, by rw [wsz_cons]; have := sh.size_pos; show wsz st < sh.size + wsz st; omega, _, _, _, st, rfl, ⟨M3.same, W.nd, W.nw, W.ne, ⟨ns', M3.qd, e3⟩, ⟨ys', M3.wt, M3.ws⟩, fun e he => W.fit e (List.mem_cons_of_mem _ he), by have := W.sz; rw [wsz_cons] at this; omega⟩, rfl⟩
    cases sh with
    | any =>
      obtain ⟨pp, u1, rfl, e, hu1⟩ := is_t1 hu
      cases is_str hu1
      refine ⟨_, rfl, pp, _, _, _, rfl, rfl, SqT.of (M.same _ _ e), rfl, rfl, _, rfl, iteF' (dsN (by decide +kernel)) ?_⟩
      refine ⟨_, rfl, pp, _, _, _, rfl, rfl, SqT.of (M.same _ _ e), rfl, rfl, _, rfl, iteF' (dsN (by decide +kernel)) ?_⟩
      refine ⟨_, rfl, pp, _, _, _, rfl, rfl, SqT.of (M.same _ _ e), rfl, rfl, _, rfl, iteF' (dsN (by decide +kernel)) ?_⟩
      exact goal _ ns M hns
    | kind k =>
      obtain ⟨pp, u1, u2, rfl, e, hu1, hu2⟩ := is_t2 hu
      cases is_str hu1
      cases is_str hu2
      refine ⟨_, rfl, pp, _, _, _, rfl, rfl, SqT.of (M.same _ _ e), rfl, rfl, _, rfl, iteT' dsY ?_⟩
      refine ⟨_, rfl, pp, _, _, _, rfl, rfl, SqT.of (M.same _ _ e), rfl, _, rfl, _, rfl, lenOk rfl, M.put (q := .k p) (a := k.at) W.nd W.ne (nd_mid (rest := pend st) (a := k.at) (by rw [show ns ++ (Qn.k p, k.at) :: pend st = needsOf s0 [] from hns]; exact hnd)) rfl (by omega) fun H3 M3 => ?_⟩
      refine ⟨_, rfl, pp, _, _, _, rfl, rfl, SqT.of (M3.same _ _ e), rfl, rfl, _, rfl, iteF' (dsN (by decide +kernel)) ?_⟩
      refine ⟨_, rfl, pp, _, _, _, rfl, rfl, SqT.of (M3.same _ _ e), rfl, rfl, _, rfl, iteF' (dsN (by decide +kernel)) ?_⟩
      exact goal _ _ M3 (by rw [List.append_assoc]; exact hns)
    | si i =>
      obtain ⟨pp, u1, u2, rfl, e, hu1, hu2⟩ := is_t2 hu
      cases is_str hu1
      cases is_int hu2
      have hns1 : ns ++ (Qn.k p, Kd.n.at) :: (Qn.s p, At.int i) :: pend st = needsOf s0 [] := hns
      refine ⟨_, rfl, pp, _, _, _, rfl, rfl, SqT.of (M.same _ _ e), rfl, rfl, _, rfl, iteF' (dsN (by decide +kernel)) ?_⟩
      refine ⟨_, rfl, pp, _, _, _, rfl, rfl, SqT.of (M.same _ _ e), rfl, rfl, _, rfl, iteT' dsY ?_⟩
      refine ⟨_, rfl, pp, _, _, _, rfl, rfl, SqT.of (M.same _ _ e), rfl, _, .int i, rfl, hu2.mono M.same, fun H3 g3 => ?_⟩
      replace M := M.go g3
      refine ⟨_, rfl, _, rfl, lenOk rfl, M.put (q := .k p) (a := Kd.n.at) W.nd W.ne (nd_mid (by rw [hns1]; exact hnd)) rfl (by omega) fun H4 M4 => ?_⟩
      refine ⟨_, rfl, pp, _, _, _, rfl, rfl, SqT.of (M4.same _ _ e), rfl, _, rfl, _, rfl, lenOk rfl, M4.put (q := .s p) (a := .int i) W.nd W.ne (nd_mid (rest := pend st) (a := .int i) (by rw [List.append_assoc]; rw [show ns ++ ([(Qn.k p, Kd.n.at)] ++ (Qn.s p, At.int i) :: pend st) = needsOf s0 [] from hns1]; exact hnd)) rfl (by rw [List.length_append]; show ns.length + 1 ≤ 900; omega) fun H5 M5 => ?_⟩
      refine ⟨_, rfl, pp, _, _, _, rfl, rfl, SqT.of (M5.same _ _ e), rfl, rfl, _, rfl, iteF' (dsN (by decide +kernel)) ?_⟩
      exact goal _ _ M5 (by rw [List.append_assoc, List.append_assoc]; exact hns1)
    | ss i =>
      obtain ⟨pp, u1, u2, rfl, e, hu1, hu2⟩ := is_t2 hu
      cases is_str hu1
      cases is_str hu2
      have hns1 : ns ++ (Qn.k p, Kd.t.at) :: (Qn.s p, At.str i) :: pend st = needsOf s0 [] := hns
      refine ⟨_, rfl, pp, _, _, _, rfl, rfl, SqT.of (M.same _ _ e), rfl, rfl, _, rfl, iteF' (dsN (by decide +kernel)) ?_⟩
      refine ⟨_, rfl, pp, _, _, _, rfl, rfl, SqT.of (M.same _ _ e), rfl, rfl, _, rfl, iteT' dsY ?_⟩
      refine ⟨_, rfl, pp, _, _, _, rfl, rfl, SqT.of (M.same _ _ e), rfl, _, .str i, rfl, hu2.mono M.same, fun H3 g3 => ?_⟩
      replace M := M.go g3
      refine ⟨_, rfl, _, rfl, lenOk rfl, M.put (q := .k p) (a := Kd.t.at) W.nd W.ne (nd_mid (by rw [hns1]; exact hnd)) rfl (by omega) fun H4 M4 => ?_⟩
      refine ⟨_, rfl, pp, _, _, _, rfl, rfl, SqT.of (M4.same _ _ e), rfl, _, rfl, _, rfl, lenOk rfl, M4.put (q := .s p) (a := .str i) W.nd W.ne (nd_mid (rest := pend st) (a := .str i) (by rw [List.append_assoc]; rw [show ns ++ ([(Qn.k p, Kd.t.at)] ++ (Qn.s p, At.str i) :: pend st) = needsOf s0 [] from hns1]; exact hnd)) rfl (by rw [List.length_append]; show ns.length + 1 ≤ 900; omega) fun H5 M5 => ?_⟩
      refine ⟨_, rfl, pp, _, _, _, rfl, rfl, SqT.of (M5.same _ _ e), rfl, rfl, _, rfl, iteF' (dsN (by decide +kernel)) ?_⟩
      exact goal _ _ M5 (by rw [List.append_assoc, List.append_assoc]; exact hns1)
    | pair s1 s2 =>
      obtain ⟨pp, u1, u2, u3, rfl, e, hu1, hu2, hu3⟩ := is_t3 hu
      cases is_str hu1
      have hns1 : ns ++ (Qn.k p, Kd.p.at) :: (needsOf s1 (p ++ [false]) ++ needsOf s2 (p ++ [true])) ++ pend st = needsOf s0 [] := by rw [← hns, List.append_assoc]; rfl
      have hsz : p.length + (s1.size + s2.size + 1) ≤ s0.size := hfit
      refine ⟨_, rfl, pp, _, _, _, rfl, rfl, SqT.of (M.same _ _ e), rfl, rfl, _, rfl, iteF' (dsN (by decide +kernel)) ?_⟩
      refine ⟨_, rfl, pp, _, _, _, rfl, rfl, SqT.of (M.same _ _ e), rfl, rfl, _, rfl, iteF' (dsN (by decide +kernel)) ?_⟩
      refine ⟨_, rfl, pp, _, _, _, rfl, rfl, SqT.of (M.same _ _ e), rfl, rfl, _, rfl, iteT' dsY ?_⟩
      refine ⟨_, rfl, _, rfl, lenOk rfl, M.put (q := .k p) (a := Kd.p.at) W.nd W.ne (nd_mid (rest := (needsOf s1 (p ++ [false]) ++ needsOf s2 (p ++ [true])) ++ pend st) (a := Kd.p.at) (by rw [show ns ++ (Qn.k p, Kd.p.at) :: ((needsOf s1 (p ++ [false]) ++ needsOf s2 (p ++ [true])) ++ pend st) = needsOf s0 [] by rw [← hns1]; simp [List.append_assoc]]; exact hnd)) rfl (by omega) fun H3 M3 => ?_⟩
      refine ⟨_, rfl, .inl ⟨rfl, _, SqL.of M3.wt⟩, _, rfl, lenOk rfl, plus_bit true (by omega) M3.pl fun x4 H4 g4 ⟨m4, e4, hm4⟩ => ?_⟩
      subst e4
      have M4 := M3.go g4
      refine ⟨_, rfl, pp, _, _, _, rfl, rfl, SqT.of (M4.same _ _ e), rfl, lenOk rfl, fun t5 ht5 => ?_⟩
      have g5 := same_new ht5 (.tup [V.ref m4, u3])
      have M5 := M4.go g5
      have hWs := W.sz
      rw [wsz_cons] at hWs
      have hWs : s1.size + s2.size + 1 + wsz st ≤ s0.size := hWs
      have hyl : ys'.length ≤ 100 := by
        rw [prd_len hys', List.length_reverse]
        have := wsz_len st
        omega
      refine ⟨lw, ys', _, rfl, rfl, M5.wt, lt_line (by omega), ?_⟩
      have M6 := M5.push W.nw W.ne (p ++ [true], s2) upd_same (g5 _ _ hm4) hu3
      refine ⟨_, rfl, .inl ⟨rfl, _, SqL.of M6.wt⟩, _, rfl, lenOk rfl, plus_bit false (by omega) M6.pl fun x7 H7 g7 ⟨m7, e7, hm7⟩ => ?_⟩
      subst e7
      have M7 := M6.go g7
      refine ⟨_, rfl, pp, _, _, _, rfl, rfl, SqT.of (M7.same _ _ e), rfl, lenOk rfl, fun t8 ht8 => ?_⟩
      have g8 := same_new ht8 (.tup [V.ref m7, u2])
      have M8 := M7.go g8
      refine ⟨lw, _, _, rfl, rfl, M8.wt, lt_line (by rw [List.length_append]; show ys'.length + 1 ≤ 1000; omega), ?_⟩
      have M9 := M8.push W.nw W.ne (p ++ [false], s1) upd_same (g8 _ _ hm7) hu2
      refine ⟨wsz ((p ++ [false], s1) :: (p ++ [true], s2) :: st), ?_, _, _, _, _, rfl, ⟨M9.same, W.nd, W.nw, W.ne, ⟨_, M9.qd, ?_⟩, ⟨_, M9.wt, M9.ws⟩, fun e he => ?_, ?_⟩, rfl⟩
      · rw [wsz_cons, wsz_cons, wsz_cons]
        show s1.size + (s2.size + wsz st) < s1.size + s2.size + 1 + wsz st
        omega
      · rw [pend_cons, pend_cons, ← hns1]
        simp [List.append_assoc]
      · rcases List.mem_cons.mp he with z | z
        · rw [z]
          show (p ++ [false]).length + s1.size ≤ s0.size
          rw [List.length_append]
          have := s2.size_pos
          show p.length + 1 + s1.size ≤ s0.size
          omega
        · rcases List.mem_cons.mp z with z | z
          · rw [z]
            show (p ++ [true]).length + s2.size ≤ s0.size
            rw [List.length_append]
            have := s1.size_pos
            show p.length + 1 + s2.size ≤ s0.size
            omega
          · exact W.fit e (List.mem_cons_of_mem _ z)
      · rw [wsz_cons, wsz_cons]
        show s1.size + (s2.size + wsz st) ≤ s0.size
        omega
end
end ST
set_option Elab.async false
set_option linter.all false
set_option maxRecDepth 100000
set_option maxHeartbeats 4000000
namespace ST
variable [TN]
open PySem L2
noncomputable def At.key : At → Key
  | .int i => .inl i
  | .str x => .inr x
theorem At.v_key (a : At) : a.v = kV a.key := by cases a <;> rfl
noncomputable def strOf (j : Nat) : Str := Str.ofString (toString (j : Int))
theorem ofString_inj {a b : String} (h : Str.ofString a = Str.ofString b) : a = b := by
  rw [Str.ofString_eq_toList, Str.ofString_eq_toList] at h
  injection h with h
  have h2 : a.toList.map Char.toNat = b.toList.map Char.toNat := by
    have := congrArg Array.toList h
    simpa using this
  have inj : ∀ {l m : List Char}, l.map Char.toNat = m.map Char.toNat → l = m := by
    intro l
    induction l with
    | nil => intro m h; cases m with
      | nil => rfl
      | cons _ _ => cases h
    | cons c t ih => intro m h; cases m with
      | nil => cases h
      | cons d u =>
        rw [List.map_cons, List.map_cons] at h
        injection h with h1 h2
        rw [ih h2, Char.toNat_inj.mp h1]
  exact String.toList_inj.mp (inj h2)
theorem strOf_inj {i j : Nat} (h : strOf i = strOf j) : i = j := by
  have h1 := ofString_inj h
  have h2 : Int.repr (i : Int) = Int.repr (j : Int) := h1
  have := Int.repr_inj.mp h2
  omega
open Classical in
noncomputable def cnt (F : Key → Prop) (kvs : List (Key × V)) : Nat := (kvs.filter fun kv => decide (F kv.1)).length
theorem cnt_le (F : Key → Prop) (kvs : List (Key × V)) : cnt F kvs ≤ kvs.length := List.length_filter_le _ _
theorem cnt_lt {F G : Key → Prop} {kvs : List (Key × V)} {k : Key} (h : ∀ x, G x → F x) (hk : k ∈ kvs.map (·.1)) (h1 : F k) (h2 : ¬ G k) : cnt G kvs < cnt F kvs := by
  unfold cnt
  have le : ∀ l : List (Key × V), (l.filter fun kv => @decide (G kv.1) (Classical.propDecidable _)).length ≤ (l.filter fun kv => @decide (F kv.1) (Classical.propDecidable _)).length := by
    intro l
    induction l with
    | nil => exact Nat.le_refl _
    | cons x t ih =>
      rw [List.filter_cons, List.filter_cons]
      by_cases hg : G x.1
      · rw [if_pos (by simpa using hg), if_pos (by simpa using h _ hg)]
        exact Nat.succ_le_succ ih
      · rw [if_neg (by simpa using hg)]
        split
        · exact Nat.le_succ_of_le ih
        · exact ih
  induction kvs with
  | nil => simp at hk
  | cons x t ih =>
    rw [List.filter_cons, List.filter_cons]
    rw [List.map_cons, List.mem_cons] at hk
    by_cases e : k = x.1
    · subst e
      rw [if_neg (by simpa using h2), if_pos (by simpa using h1)]
      exact Nat.lt_succ_of_le (le t)
    · have ih' := ih (hk.resolve_left e)
      by_cases hg : G x.1
      · rw [if_pos (by simpa using hg), if_pos (by simpa using h _ hg)]
        exact Nat.succ_lt_succ ih'
      · rw [if_neg (by simpa using hg)]
        split
        · exact Nat.lt_succ_of_lt ih'
        · exact ih'
noncomputable def fromI (n : Nat) (k : Key) : Prop := ∃ i : Nat, n ≤ i ∧ k = .inl (i : Int)
noncomputable def fromT (n : Nat) (k : Key) : Prop := ∃ i : Nat, n ≤ i ∧ k = .inr (strOf i)
theorem cntI_lt {kvs : List (Key × V)} {n : Nat} (h : (valV kvs (.inl (n : Int))).isSome = true) : cnt (fromI (n + 1)) kvs < cnt (fromI n) kvs := by
  obtain ⟨v, hv⟩ := Option.isSome_iff_exists.mp h
  refine cnt_lt (k := .inl (n : Int)) (fun x ⟨i, hi, e⟩ => ⟨i, by omega, e⟩) (valV_in hv) ⟨n, Nat.le_refl _, rfl⟩ ?_
  rintro ⟨i, hi, e⟩
  injection e with e
  omega
theorem cntT_lt {kvs : List (Key × V)} {n : Nat} (h : (valV kvs (.inr (strOf n))).isSome = true) : cnt (fromT (n + 1)) kvs < cnt (fromT n) kvs := by
  obtain ⟨v, hv⟩ := Option.isSome_iff_exists.mp h
  refine cnt_lt (k := .inr (strOf n)) (fun x ⟨i, hi, e⟩ => ⟨i, by omega, e⟩) (valV_in hv) ⟨n, Nat.le_refl _, rfl⟩ ?_
  rintro ⟨i, hi, e⟩
  injection e with e
  have := strOf_inj e
  omega
theorem log_small {j : Nat} (h : j ≤ 10000) : ((j : Int)).natAbs.log2 < 1920 := by
  have e : ((j : Int)).natAbs = j := rfl
  rw [e]
  by_cases h0 : j = 0
  · subst h0; decide
  · have := (Nat.log2_lt h0 (k := 1920)).mpr (Nat.lt_of_le_of_lt h (by decide +kernel))
    exact this
noncomputable def strangeD (sn : Int) (st : Str) : List (Key × V) := [(.inr "number", .int sn), (.inr "text", .str st)]
noncomputable def Strange (rn : List Needs) (sn : Int) (st : Str) : Prop := ∀ ns ∈ rn, ∀ p a, (Qn.s p, a) ∈ ns → a ≠ .int sn ∧ a ≠ .str st
noncomputable def Rns (rn : List Needs) : Prop := rn.length ≤ 50 ∧ ∀ ns ∈ rn, ns.length ≤ 40 ∧ (nkeys ns).Nodup
noncomputable def spStrange (P : Program) (w : World) : Sp := fun vs H Q _ => ∃ (l : Addr) (ys : List V) (rn : List Needs), vs = [.ref l] ∧ H l = some (.lst ys) ∧ Nss P w H ys rn ∧ Rns rn ∧
  ∀ (d : Addr) (sn : Int) (st : Str) (H' : Hp), Same H H' → H d = none → H' d = some (.dK (strangeD sn st)) → Strange rn sn st → Q (.ref d) H'
noncomputable def Knows (kvs : List (Key × V)) (ns : Needs) : Prop := ∀ p a, (Qn.s p, a) ∈ ns → (valV kvs a.key).isSome = true
theorem Knows.put {kvs : List (Key × V)} {ns : Needs} (h : Knows kvs ns) (k : Key) (v : V) : Knows (putK kvs k v) ns := fun p a m => by
  rw [valV_put]
  split
  · rfl
  · exact h p a m
theorem putK_len (kvs : List (Key × V)) (k : Key) (v : V) : (putK kvs k v).length ≤ kvs.length + 1 := by
  unfold putK
  split
  · rw [List.length_map]; omega
  · simp
seal L2.PE L2.PA L2.PS L2.PSs L2.PT L2.PW L2.PG L2.PGs L2.PI
section
variable {P : Program} {w : World} {K : PySem.W.Frag} {mg : Str → Option Value} {base : Heap}
theorem sc_strange_atoms : FnScope ["rows_needs", "known", "needs", "question", "number", "text", "tried"] ["rows_needs"] (defScope s_strange_atoms) := ⟨rfl, rfl, rfl, by decide +kernel, rfl, by decide +kernel, by decide +kernel⟩
theorem ok_strange (FN : FunAt K mg "strange_atoms" s_strange_atoms ["rows_needs"]) (B : Blt mg) : Callee P w K mg base 1 "strange_atoms" ["rows_needs"] (spStrange P w) := by
  refine FN.ok sc_strange_atoms (fun vs H Q E h => ?_) (fun f cdv A outer s H vs Q E hr h => ?_)
  · obtain ⟨l, ys, rn, rfl, _⟩ := h
    rfl
  obtain ⟨l, ys, rn, rfl, hl, hns, ⟨h50, h40⟩, q⟩ := h
  have hlen := prd_len hns
  refine ⟨_, ((pss_cons (ps_set (i := 1) sc_strange_atoms.nd rfl (Or.inl rfl) pe_dnewK)
    (pss_cons (ps_mid (ps_for PassesOwn.never rfl (pi_list (pv 0)) (pg_name (i := 2) sc_strange_atoms.nd rfl (Or.inl rfl))
      (pss_one (ps_for PassesOwn.never rfl (pi_q (pv 2)) (pg_name (i := 3) sc_strange_atoms.nd rfl (Or.inl rfl))
        (pss_one (ps_if (pt_cmpR op_eq (pe_ix ix_tup (pv 3) pe_int (fun _ _ => rfl)) pe_str (nomark _))
          (pss_one (ps_dput (hu_of hr) (pv 1) (pe_qget (hu2_of hr) (pv 2) (pv 3) (fun _ _ => rfl)) pe_bl rfl)) pss_nil))))))
    (pss_cons (ps_set (i := 4) sc_strange_atoms.nd rfl (Or.inl rfl) pe_int)
    (pss_cons (ps_mid (ps_while PassesOwn.never (pt_cmp (pc_din (hu_of hr) (pv 4) (pv 1)))
      (pss_one (ps_set (i := 4) sc_strange_atoms.nd rfl (Or.inl rfl) (pe_op op_add (pv 4) pe_int)))))
    (pss_cons (ps_set (i := 5) sc_strange_atoms.nd rfl (Or.inl rfl) pe_str)
    (pss_cons (ps_set (i := 6) sc_strange_atoms.nd rfl (Or.inl rfl) pe_int)
    (pss_cons (ps_while PassesOwn.never (pt_cmp (pc_din (hu_of hr) (pv 5) (pv 1)))
      (pss_cons (ps_set (i := 5) sc_strange_atoms.nd rfl (Or.inl rfl) (pe_callTy call_str_int rfl B.str_ PyProof.Rows.boot_str (pa_cons (pv 6) pa_nil)))
      (pss_one (ps_set (i := 6) sc_strange_atoms.nd rfl (Or.inl rfl) (pe_op op_add (pv 6) pe_int)))))
    (pss_one (ps_ret (pe_disp (pps_cons pe_str (pv 4) (pps_cons pe_str (pv 5) pps_nil)) rfl rfl (by simp) (Nat.le_of_ble_eq_true rfl)))))))))))), ?_⟩
  intro dk hdk
  have hne : l ≠ dk := ne_of_none hl hdk
  refine ⟨fun σ' H' => ∃ o2 o3 kvs, σ' = [some (.ref l), some (.ref dk), o2, o3, none, none, none] ∧ Same H H' ∧ H' dk = some (.dK kvs) ∧ kvs.length ≤ 2000 ∧ ∀ ns ∈ rn, Knows kvs ns, ?_, ?_⟩
  · refine ⟨_, rfl, l, rfl, ⟨ys, SqL.of (by rw [upd_ne hne]; exact hl)⟩, ?_⟩
    refine for_n (itn_l (xs := ys)) (fun i σ' H' => ∃ o2 o3 kvs, σ' = [some (.ref l), some (.ref dk), o2, o3, none, none, none] ∧ Same H H' ∧ H' dk = some (.dK kvs) ∧ kvs.length ≤ 40 * i ∧ ∀ ns ∈ rn.take i, Knows kvs ns) ⟨_, _, [], rfl, same_new hdk _, upd_same, Nat.zero_le _, fun ns h => by simp at h⟩ (fun i σ' H' _ z => by obtain ⟨_, _, _, _, g, _⟩ := z; exact SqL.of (g _ _ hl)) (fun i x σ' H' hi hx z => ?_) (fun σ' H' z => ?_)
    · obtain ⟨o2, o3, kvs, rfl, g, hk, hkl, hkn⟩ := z
      obtain ⟨ns, hn1, d, rfl, ep, xs, hd, hxs, hkk⟩ := prd_get hns hx
      obtain ⟨hxl, hat⟩ := nv_prj hxs
      obtain ⟨hn40, hnd⟩ := h40 ns (List.mem_of_getElem? hn1)
      refine ⟨_, rfl, d, ep, xs, rfl, g _ _ hd, ?_⟩
      refine for_n itn_q (fun j σ' H' => ∃ o3 kvs, σ' = [some (.ref l), some (.ref dk), some (.ref d), o3, none, none, none] ∧ Same H H' ∧ H' dk = some (.dK kvs) ∧ kvs.length ≤ 40 * i + j ∧ (∀ ns ∈ rn.take i, Knows kvs ns) ∧ Knows kvs (ns.take j)) ⟨_, kvs, rfl, g, hk, by omega, hkn, fun p a h => by simp at h⟩ (fun j σ' H' _ z => by obtain ⟨_, _, _, g, _⟩ := z; exact g _ _ hd) (fun j y σ' H' hj hy z => ?_) (fun σ' H' z => ?_)
      · obtain ⟨o3, kvs, rfl, g, hk, hkl, hkn, hkj⟩ := z
        obtain ⟨e, he, rfl⟩ := hy
        obtain ⟨n, hn, e1, e2⟩ := hat j e he
        have kq := (hkk e (List.mem_of_getElem? he)).mono g
        have kq0 := kq
        obtain ⟨qa, qb, eq, hqa, hqb⟩ := kq
        cases eq
        have et : ns.take (j + 1) = ns.take j ++ [n] := by rw [List.take_add_one, hn]; rfl
        refine ⟨_, rfl, _, _, _, _, rfl, rfl, SqT.of hqa, rfl, rfl, _, rfl, ?_⟩
        cases hq : e.1 with
        | k p =>
          refine iteF' dKS ⟨_, kvs, rfl, g, hk, by omega, hkn, fun p' a m => ?_⟩
          rw [et] at m
          rcases List.mem_append.mp m with m | m
          · exact hkj p' a m
          · have : n = (Qn.s p', a) := (List.mem_singleton.mp m).symm
            rw [this, hq] at e1
            cases e1
        | s p =>
          refine iteT' dSS ?_
          have hmem : (e.1, n.2) ∈ ns := by rw [e1]; exact List.mem_of_getElem? hn
          have hv : valV (nv ns) e.1 = some n.2.v := by rw [nv_val, look_of hnd hmem]; rfl
          have hpl := putK_len kvs n.2.key (.bl true)
          refine ⟨_, rfl, _, rfl, _, rfl, d, nv ns, e.1, n.2.v, rfl, ⟨ep, xs, g _ _ hd, hxs, fun x hx => (hkk x hx).mono g⟩, kq0, hv, dk, _, rfl, by rw [At.v_key]; exact DPut.k hk (lt_line2 (by omega)), _, _, rfl, g.upd hdk _, upd_same, by omega, fun ns' h' => (hkn ns' h').put _ _, fun p' a m => ?_⟩
          rw [et] at m
          rcases List.mem_append.mp m with m | m
          · exact hkj.put _ _ p' a m
          · have : n = (Qn.s p', a) := (List.mem_singleton.mp m).symm
            rw [this, valV_put, if_pos rfl]; rfl
      · obtain ⟨o3, kvs, rfl, g, hk, hkl, hkn, hkj⟩ := z
        refine ⟨_, _, kvs, rfl, g, hk, by omega, fun ns' h' => ?_⟩
        rw [List.take_add_one, hn1] at h'
        rcases List.mem_append.mp h' with h' | h'
        · exact hkn ns' h'
        · have : ns' = ns := by simpa using h'
          rw [this]
          rw [List.take_of_length_le (by omega)] at hkj
          exact hkj
    · obtain ⟨o2, o3, kvs, rfl, g, hk, hkl, hkn⟩ := z
      exact ⟨_, _, kvs, rfl, g, hk, by omega, by rw [List.take_of_length_le (by omega)] at hkn; exact hkn⟩
  · rintro σ1 H1 ⟨o2, o3, kvs, rfl, g1, hk1, hkl, hkn⟩
    refine ⟨fun σ' H' => ∃ sn : Nat, σ' = [some (.ref l), some (.ref dk), o2, o3, some (.int sn), none, none] ∧ H' = H1 ∧ valV kvs (.inl (sn : Int)) = none, ?_, ?_⟩
    · refine ⟨fun m σ' H' => ∃ n : Nat, σ' = [some (.ref l), some (.ref dk), o2, o3, some (.int n), none, none] ∧ H' = H1 ∧ m = cnt (fromI n) kvs, ⟨_, 0, rfl, rfl, rfl⟩, ?_⟩
      rintro m σ' H' ⟨n, rfl, rfl, rfl⟩
      refine ⟨_, rfl, _, rfl, dk, _, rfl, DGet.k (k := .inl (n : Int)) hk1, _, rfl, ?_⟩
      cases hv : (valV kvs (.inl (n : Int))).isSome with
      | true =>
        refine iteT' rfl ⟨_, fun σ1 H1 z => z, ?_⟩
        exact ⟨_, rfl, _, _, rfl, rfl, _, cntI_lt hv, n + 1, rfl, rfl, rfl⟩
      | false =>
        refine iteF' rfl ⟨n, rfl, rfl, ?_⟩
        exact Option.not_isSome_iff_eq_none.mp (by rw [hv]; exact Bool.false_ne_true)
    · rintro σ2 H2 ⟨sn, rfl, rfl, hsn⟩
      have c0 := cnt_le (fromT 0) kvs
      refine ⟨fun m σ' H' => ∃ (tx : Str) (t : Nat), σ' = [some (.ref l), some (.ref dk), o2, o3, some (.int sn), some (.str tx), some (.int t)] ∧ H' = H2 ∧ ((t = 0 ∧ m = cnt (fromT 0) kvs + 1) ∨ ∃ j, t = j + 1 ∧ tx = strOf j ∧ m = cnt (fromT j) kvs ∧ j + m ≤ 3000), ⟨_, _, 0, rfl, rfl, .inl ⟨rfl, rfl⟩⟩, ?_⟩
      rintro m σ' H' ⟨tx, t, rfl, rfl, hm⟩
      refine ⟨_, rfl, _, rfl, dk, _, rfl, DGet.k (k := .inr tx) hk1, _, rfl, ?_⟩
      cases hv : (valV kvs (.inr tx)).isSome with
      | true =>
        refine iteT' rfl ⟨_, fun σ1 H1 z => z, ?_⟩
        have ht : t ≤ 4000 := by
          rcases hm with ⟨rfl, _⟩ | ⟨j, rfl, _, _, hj⟩ <;> omega
        refine ⟨_, rfl, (t : Int), rfl, log_small (by omega), ?_⟩
        refine ⟨_, rfl, _, _, rfl, rfl, cnt (fromT t) kvs, ?_, strOf t, t + 1, rfl, rfl, .inr ⟨t, rfl, rfl, rfl, ?_⟩⟩
        · rcases hm with ⟨rfl, rfl⟩ | ⟨j, rfl, rfl, rfl, hj⟩
          · exact Nat.lt_succ_self _
          · exact cntT_lt hv
        · rcases hm with ⟨rfl, rfl⟩ | ⟨j, rfl, rfl, rfl, hj⟩
          · omega
          · have := cntT_lt hv
            omega
      | false =>
        refine iteF' rfl ?_
        intro dd hdd
        refine ⟨_, rfl, _, rfl, upd_same, strangeD sn tx, rfl, Nat.le_of_ble_eq_true rfl, ?_⟩
        refine q dd sn tx _ ((g1.trans (same_new hdd _)).upd (g1.free hdd) _ (notf upd_same)) (g1.free hdd) upd_same fun ns hns p a m => ⟨fun z => ?_, fun z => ?_⟩
        · have := hkn ns hns p a m
          rw [z, show At.key (.int sn) = .inl (sn : Int) from rfl, hsn] at this
          cases this
        · have := hkn ns hns p a m
          rw [z, show At.key (.str tx) = .inr tx from rfl, hv] at this
          cases this
end
end ST
set_option Elab.async false
set_option linter.all false
set_option maxRecDepth 100000
set_option maxHeartbeats 4000000
namespace ST
variable [TN]
open PySem PySem.Spec PyProof.Rows L2
noncomputable def FunL (K : PySem.W.Frag) (mg : Str → Option Value) (x : Str) (st : Stmt) (ps : List Str) (T : Addr) : Prop :=
  ∃ (f : Addr) (oc : Value) (od : Option Addr) (kV doc pm : Value) (an : Option Addr) (c : Addr) (ct : Value) (osl : Array (Option Value)),
    K.lookup f = some ⟨oc, od, .func (PySem.W.fnOf x x (defArgs st) (defBody st) (defScope st) .none kV doc pm an (.ref c) ct), osl⟩ ∧ PySem.W.codeIn K (.ref c) x = true ∧ PySem.W.codeHdIn K c T = true ∧ PySem.W.keepIn K (.ref f) = true ∧
    Binds K (PySem.W.fnOf x x (defArgs st) (defBody st) (defScope st) .none kV doc pm an (.ref c) ct) ps [] ∧ mg x = some (.ref f)
noncomputable def BmAt (mg : Str → Option Value) (base : Heap) : Prop := ∃ bm o, mg "__builtins__" = some (.ref bm) ∧ bm ≠ builtinsNs ∧ bm ≠ mainGlobals ∧ base.get? bm = some o ∧ o.cls = .type "module" ∧ o.dict = some builtinsNs ∧ o.data = .plain
theorem FunL.ok {P : Program} {w : World} {K : PySem.W.Frag} {mg : Str → Option Value} {base : Heap} {x : Str} {st : Stmt} {N ps : List Str} {k : Nat} {sp : Sp} {T : Addr} (F : FunL K mg x st ps T) (S : FnScope N ps (defScope st)) (len : ∀ vs H Q E, sp vs H Q E → vs.length = ps.length)
    (hbody : ∀ (f c : Addr) (A : Around) (outer : List Env) (s : Shared) (H : Hp) (vs : List V) (Q : VK) (E : XK), PySem.W.codeHdIn K c T = true → Room k (A.deeper (envOfC x (defScope st) s.heap.objs.size f (.ref c))) → sp vs H Q E →
      ∃ t, PSs (cxOf CX0 P w K mg base N x (defScope st) f (.ref c) A outer s H E).nox (defBody st) t ∧ t { nx := fun _ H' => Q .non H', rt := Q } (start N vs) H) : Callee P w K mg base (k + 1) x ps sp := by
  obtain ⟨f, oc, od, kV, doc, pm, an, c, ct, osl, lk, hcd, hhd, kp, b, m⟩ := F
  refine ⟨f, _, fn_of lk hcd S len fun A outer s H vs Q E hr hsp => ?_, b, kp, m⟩
  obtain ⟨t, h, q⟩ := hbody f c A outer s H vs Q E hhd hr hsp
  exact ⟨t, h.nox, q⟩
theorem funL_mk {K : PySem.W.Frag} {h : Heap} {mg : Str → Option Value} {x : Str} {st : Stmt} {ps : List Str} {T f c : Addr} {oc : Value} {od an : Option Addr} {osl : Array (Option Value)} {kV doc pm ct : Value} (X : K.In h) (G : h.Ns mainGlobals mg)
    (a : PySem.W.nsIn K mainGlobals x = some (some (.ref f))) (l : K.lookup f = some ⟨oc, od, .func (PySem.W.fnOf x x (defArgs st) (defBody st) (defScope st) .none kV doc pm an (.ref c) ct), osl⟩) (cd : PySem.W.codeIn K (.ref c) x = true) (hd : PySem.W.codeHdIn K c T = true) (k : PySem.W.keepIn K (.ref f) = true)
    (b : ∀ (kV doc pm : Value) (an : Option Addr) (cdv ct : Value) (us : List Value), us.length = ps.length → bindArgs (PySem.W.fnOf x x (defArgs st) (defBody st) (defScope st) .none kV doc pm an cdv ct) ⟨us, []⟩ = pure (ps.zip us)) : FunL K mg x st ps T :=
  ⟨f, oc, od, kV, doc, pm, an, c, ct, osl, l, cd, hd, k, (fun_mk (st := st) l cd k).binds b, PySem.W.mg_of X G a⟩
end ST
set_option Elab.async false
set_option linter.all false
set_option maxRecDepth 100000
set_option maxHeartbeats 4000000
namespace ST
variable [TN]
open PySem L2
noncomputable def pk (p : List Bool) : List Key := p.map fun b => Sum.inl (bitI b)
theorem pk_kV (p : List Bool) : (pk p).map kV = p.map bit := by unfold pk; rw [List.map_map]; rfl
theorem pk_inj {p p' : List Bool} (h : pk p = pk p') : p = p' := by
  unfold pk at h
  refine bits_inj (a := p) (b := p') ?_
  have z := congrArg (List.map fun k : Key => match k with | .inl i => i | .inr _ => 0) h
  rw [List.map_map, List.map_map] at z
  exact z
theorem perm_map_inv {α β : Type} {f : α → β} {l m : List β} (h : l.Perm m) : ∀ {t : List α}, m = t.map f → ∃ u : List α, l = u.map f ∧ u.Perm t := by
  induction h with
  | nil => intro t e; cases t with
    | nil => exact ⟨[], rfl, .nil⟩
    | cons _ _ => cases e
  | cons x _ ih => intro t e; cases t with
    | nil => cases e
    | cons a t =>
      rw [List.map_cons] at e
      injection e with e1 e2
      obtain ⟨u, rfl, hu⟩ := ih e2
      exact ⟨a :: u, by rw [List.map_cons, e1], hu.cons a⟩
  | swap x y l => intro t e; cases t with
    | nil => cases e
    | cons a t => cases t with
      | nil => cases e
      | cons b t =>
        rw [List.map_cons, List.map_cons] at e
        injection e with e1 e2
        injection e2 with e2 e3
        exact ⟨b :: a :: t, by rw [List.map_cons, List.map_cons, e1, e2, e3], List.Perm.swap a b t⟩
  | trans _ _ ih1 ih2 =>
    intro t e
    obtain ⟨u, rfl, hu⟩ := ih2 e
    obtain ⟨v, rfl, hv⟩ := ih1 rfl
    exact ⟨v, rfl, hv.trans hu⟩
noncomputable abbrev QE := Qn × Addr × V
theorem sorted_qs {xs : List QE} {ys' : List V} (h : SortedV true (xs.map fun e => ((e.1.pl.length : Nat) : Int)) (xs.map fun e => V.ref e.2.1) ys') :
    ∃ es : List QE, es.Perm xs ∧ ys' = es.map (fun e => V.ref e.2.1) ∧ es.Pairwise fun p q => q.1.pl.length ≤ p.1.pl.length := by
  obtain ⟨pz, hp, rfl, hs⟩ := h
  have e : (xs.map fun e => ((e.1.pl.length : Nat) : Int)).zip (xs.map fun e => V.ref e.2.1) = xs.map fun e : QE => (((e.1.pl.length : Nat) : Int), V.ref e.2.1) := by
    rw [List.zip_map']
  rw [e] at hp
  obtain ⟨es, rfl, hes⟩ := perm_map_inv hp rfl
  refine ⟨es, hes, by rw [List.map_map]; rfl, ?_⟩
  rw [List.pairwise_map] at hs
  refine hs.imp fun {a b} z => ?_
  have z' : ((b.1.pl.length : Nat) : Int) ≤ ((a.1.pl.length : Nat) : Int) := z
  omega
theorem build_none {N : Needs} {sn : Int} {st : Str} {M : Nat} {p : List Bool} (h1 : Qn.k p ∉ nkeys N) (h2 : Qn.s p ∉ nkeys N) : build N sn st M p = .int sn := by
  by_cases h : p.length ≤ M
  · rw [build_step h, look_none.mpr h1, look_none.mpr h2]
  · exact build_over (by omega)
noncomputable def pickV (sn : Int) (st : Str) (x y : Va) : Kd → Va
  | .p => .pr x y
  | .t => .str st
  | .n => .int sn
theorem build_k {N : Needs} {sn : Int} {st : Str} {M : Nat} {p : List Bool} {k : Kd} (h : p.length ≤ M) (h1 : look N (.k p) = some k.at) (h2 : Qn.s p ∉ nkeys N) :
    build N sn st M p = pickV sn st (build N sn st M (p ++ [false])) (build N sn st M (p ++ [true])) k := by
  rw [build_step h, h1, look_none.mpr h2]
  cases k with
  | p => exact if_pos rfl
  | t => exact (if_neg (show ¬ Kd.t.at = Kd.p.at from fun z => nomatch at_inj z)).trans (if_pos rfl)
  | n => exact (if_neg (show ¬ Kd.n.at = Kd.p.at from fun z => nomatch at_inj z)).trans (if_neg (show ¬ Kd.n.at = Kd.t.at from fun z => nomatch at_inj z))
noncomputable def spMeet (P : Program) (w : World) (T : Addr) : Sp := fun vs H Q _ => ∃ (v : V) (ds : Addr) (N : Needs) (sn : Int) (st : Str), vs = [v, .ref ds] ∧ NsIs P w H v N ∧ H ds = some (.dK (strangeD sn st)) ∧ TabQ H T (TN.nm T) ∧ Few N ∧
  ∀ r H', Same H H' → Is H' r (Va.d (build N sn st 3 [])) → Q r H'
noncomputable def Bt (N : Needs) (sn : Int) (st : Str) (H' : Hp) (kvs : List (List Key × V)) (ds : List Qn) : Prop :=
  ∀ p, (Qn.k p ∈ ds → ∃ v, valV kvs (pk p) = some v ∧ Is H' v (Va.d (build N sn st 3 p))) ∧ (Qn.k p ∉ ds → valV kvs (pk p) = none)
theorem get_num (sn : Int) (st : Str) : valV (strangeD sn st) (.inr "number") = some (.int sn) := by
  unfold strangeD; exact valV_pos rfl
theorem get_txt (sn : Int) (st : Str) : valV (strangeD sn st) (.inr "text") = some (.str st) := by
  unfold strangeD
  rw [valV_neg (fun z => by injection z with z; exact absurd z (by decide +kernel))]; exact valV_pos rfl
theorem Bt.put {N : Needs} {sn : Int} {st : Str} {H H2 : Hp} {kvs : List (List Key × V)} {D : List Qn} {p : List Bool} {v : V} (h : Bt N sn st H kvs D) (tk : ∀ b xs, H b = some (.tup xs) → H2 b = some (.tup xs)) (hv : Is H2 v (Va.d (build N sn st 3 p))) : Bt N sn st H2 (putK kvs (pk p) v) (D ++ [.k p]) := fun p' => by
  rw [valV_put]
  by_cases e : p' = p
  · subst e
    rw [if_pos rfl]
    exact ⟨fun _ => ⟨v, rfl, hv⟩, fun z => absurd (List.mem_append_right _ List.mem_cons_self) z⟩
  · rw [if_neg (fun z => e (pk_inj z))]
    refine ⟨fun m => ?_, fun m => (h p').2 fun z => m (List.mem_append_left _ z)⟩
    rcases List.mem_append.mp m with m | m
    · obtain ⟨u, e1, e2⟩ := (h p').1 m
      exact ⟨u, e1, e2.tk tk⟩
    · exact absurd (by injection List.mem_singleton.mp m) e
theorem tk_dT {H : Hp} {a : Addr} {kvs : List (List Key × V)} (h : H a = some (.dT kvs)) (o : HO) : ∀ b zs, H b = some (.tup zs) → upd H a o b = some (.tup zs) := fun b zs e => by
  rw [upd_ne (fun z => by rw [z, h] at e; cases e)]; exact e
theorem Bt.get {N : Needs} {sn : Int} {st : Str} {H : Hp} {kvs : List (List Key × V)} {D : List Qn} {p : List Bool} (h : Bt N sn st H kvs D) (hs : Qn.s p ∉ nkeys N) (hD : Qn.k p ∈ nkeys N → Qn.k p ∈ D) (hD2 : Qn.k p ∈ D → Qn.k p ∈ nkeys N) : Is H ((valV kvs (pk p)).getD (.int sn)) (Va.d (build N sn st 3 p)) := by
  by_cases m : Qn.k p ∈ nkeys N
  · obtain ⟨v, e, i⟩ := (h p).1 (hD m)
    rw [e]; exact i
  · rw [(h p).2 fun z => m (hD2 z), build_none m hs]
    exact .int sn
seal L2.PE L2.PA L2.PS L2.PSs L2.PT L2.PW L2.PG L2.PGs L2.PI
section
variable {P : Program} {w : World} {K : PySem.W.Frag} {mg : Str → Option Value} {base : Heap}
theorem sc_value_meeting : FnScope ["needs", "strange", "built", "deepest_first", "question", "place", "answer", "one", "two"] ["needs", "strange"] (defScope s_value_meeting) := ⟨rfl, rfl, rfl, by decide +kernel, rfl, by decide +kernel, by decide +kernel⟩
theorem ok_meet {T : Addr} (FN : FunL K mg "value_meeting" s_value_meeting ["needs", "strange"] T) (B : Blt mg) (BM : BmAt mg base) (HN : (("value_meeting" : Str) ++ ".<locals>.") ++ "<lambda>" = TN.nm T) : Callee P w K mg base 4 "value_meeting" ["needs", "strange"] (spMeet P w T) := by
  refine FN.ok sc_value_meeting (fun vs H Q E h => ?_) (fun f c A outer s H vs Q E hcd hr h => ?_)
  · obtain ⟨v, ds, N, sn, st, rfl, _⟩ := h
    rfl
  obtain ⟨v, ds, N, sn, st, rfl, ⟨d, rfl, ep, xs, hd, hx, hk⟩, hds, tab, few, q⟩ := h
  obtain ⟨hxl, hat⟩ := nv_prj hx
  have LM : Lm (cxOf CX0 P w K mg base ["needs", "strange", "built", "deepest_first", "question", "place", "answer", "one", "two"] "value_meeting" (defScope s_value_meeting) f (.ref c) A outer s H E).nox T := ⟨⟨c, rfl, hcd⟩, BM⟩
  have HQ : (cxOf CX0 P w K mg base ["needs", "strange", "built", "deepest_first", "question", "place", "answer", "one", "two"] "value_meeting" (defScope s_value_meeting) f (.ref c) A outer s H E).nox.env.qual ++ "<lambda>" = TN.nm T := HN
  refine ⟨_, ((pss_cons (ps_set (i := 2) sc_value_meeting.nd rfl (Or.inl rfl) pe_dnewT)
    (pss_cons (ps_set (i := 3) sc_value_meeting.nd rfl (Or.inl rfl) (pe_sortedQR (k := 0) (hs := [4]) rfl (hr.mono (by decide)) rfl B.sorted_ (pv 0) LM HQ (cloLS_of (x := "question") (defScope s_value_meeting).names ["needs", "strange", "built", "deepest_first", "question", "place", "answer", "one", "two"] rfl rfl (by decide +kernel)) (fun cl A' L' f' cv' s₀ H₀ hr => (pe_callB (call_lenC (K := K) rfl) rfl B.len_ PySem.boot_len (pa_cons (pe_ix (ix_tupC (K := K) rfl) (pv 0) pe_int (fun _ _ => rfl)) pa_nil)))))
    (pss_cons (ps_for PassesOwn.never rfl (pi_list (pv 3)) (pg_name (i := 4) sc_value_meeting.nd rfl (Or.inl rfl))
      (pss_cons (ps_set (i := 5) sc_value_meeting.nd rfl (Or.inl rfl) (pe_ix (ix_tupC (K := K) rfl) (pv 4) pe_int (fun _ _ => rfl)))
      (pss_cons (ps_set (i := 6) sc_value_meeting.nd rfl (Or.inl rfl) (pe_qget (hu2_of hr) (pv 0) (pv 4) (fun _ _ => rfl)))
      (pss_one (ps_if (pt_cmpR op_eq (pe_ix ix_tup (pv 4) pe_int (fun _ _ => rfl)) pe_str (nomark _))
        (pss_one (ps_dput (hu_of hr) (pv 2) (pv 5) (pv 6) rfl))
        (pss_one (ps_if (pt_cmpR op_eq (pv 6) pe_str (nomark _))
          (pss_cons (ps_set (i := 7) sc_value_meeting.nd rfl (Or.inl rfl) (pe_bmD PySem.F.slot_dict_get PySem.F.type_dict_get (mt_getT (hu_of hr)) (pv 2) (pa_cons (pe_op op_plus (pv 5) (pe_tup (pa_cons pe_int pa_nil))) (pa_cons (pe_dget (hu_of hr) (pv 1) pe_str (fun _ _ => rfl)) pa_nil))))
          (pss_cons (ps_set (i := 8) sc_value_meeting.nd rfl (Or.inl rfl) (pe_bmD PySem.F.slot_dict_get PySem.F.type_dict_get (mt_getT (hu_of hr)) (pv 2) (pa_cons (pe_op op_plus (pv 5) (pe_tup (pa_cons pe_int pa_nil))) (pa_cons (pe_dget (hu_of hr) (pv 1) pe_str (fun _ _ => rfl)) pa_nil))))
          (pss_one (ps_dput (hu_of hr) (pv 2) (pv 5) (pe_tup (pa_cons (pv 7) (pa_cons (pv 8) pa_nil))) rfl))))
          (pss_one (ps_expr (pe_bmD PySem.F.slot_dict_setdefault PySem.F.type_dict_setdefault (mt_setdefT (hu_of hr)) (pv 2) (pa_cons (pv 5) (pa_cons (pe_dget (hu_of hr) (pv 1) (pv 6) (fun _ _ => rfl)) pa_nil))))))))))))
    (pss_one (ps_ret (pe_bmD PySem.F.slot_dict_get PySem.F.type_dict_get (mt_getT (hu_of hr)) (pv 2) (pa_cons (pe_tup pa_nil) (pa_cons (pe_dget (hu_of hr) (pv 1) pe_str (fun _ _ => rfl)) pa_nil))))))))), ?_⟩
  intro db hdb
  have g0 := same_new hdb (.dT [])
  refine ⟨_, rfl, xs.map (fun e => V.ref e.2.1), xs.map (fun e => ((e.1.pl.length : Nat) : Int)), ⟨d, ep, xs, rfl, g0 _ _ hd, rfl⟩, g0.tab T tab, by rw [List.length_map, List.length_map], by rw [List.length_map, hxl]; have := few.1; omega, fun i y kz H' hy hkz g' => ?_, fun lf ys' H1 so g1 hlf => ?_⟩
  · rw [List.getElem?_map] at hy hkz
    cases he : xs[i]? with
    | none => rw [he] at hy; cases hy
    | some e =>
      rw [he] at hy hkz
      cases hy
      cases hkz
      obtain ⟨qa, qb, eq, h1, h2⟩ := (hk e (List.mem_of_getElem? he)).mono (g0.trans g')
      cases eq
      refine ⟨_, rfl, _, _, _, _, rfl, rfl, SqT.of h1, rfl, qb, _, rfl, .inr (SqT.of h2), ?_, Same.refl _⟩
      rw [List.length_map]
  obtain ⟨es, hperm, rfl, hsort⟩ := sorted_qs so
  have hlen : es.length ≤ 40 := by rw [hperm.length_eq, hxl]; exact few.1
  have gf := same_new hlf (.lst (es.map fun e => V.ref e.2.1))
  have g01 := g0.trans (g1.trans gf)
  have edb : upd H1 lf (.lst (es.map fun e => V.ref e.2.1)) db = some (.dT []) := gf _ _ (g1 _ _ upd_same)
  refine ⟨_, rfl, lf, rfl, ⟨_, SqL.of upd_same⟩, ?_⟩
  refine for_n (itn_l (xs := es.map fun e => V.ref e.2.1)) (fun i σ' H' => ∃ o4 o5 o6 o7 o8 kvs, σ' = [some (.ref d), some (.ref ds), some (.ref db), some (.ref lf), o4, o5, o6, o7, o8] ∧ Same H H' ∧ H' db = some (.dT kvs) ∧ H' lf = some (.lst (es.map fun e => V.ref e.2.1)) ∧ kvs.length ≤ i ∧ Bt N sn st H' kvs ((es.take i).map (·.1)))
    ⟨_, _, _, _, _, [], rfl, g01, edb, upd_same, Nat.le_refl _, fun p => ⟨fun h => by simp at h, fun _ => rfl⟩⟩ (fun i σ' H' _ z => by obtain ⟨_, _, _, _, _, _, _, _, _, hl, _⟩ := z; exact SqL.of hl) (fun i x σ' H' hi hx' z => ?_) (fun σ' H' z => ?_)
  · obtain ⟨o4, o5, o6, o7, o8, kvs, rfl, g, hb, hl, hkl, bt⟩ := z
    rw [List.length_map] at hi
    have he : es[i]? = some es[i] := List.getElem?_eq_getElem hi
    generalize es[i] = e at he
    rw [List.getElem?_map, he] at hx'
    cases hx'
    have hex : e ∈ xs := hperm.mem_iff.mp (List.mem_of_getElem? he)
    obtain ⟨j, hj⟩ := List.getElem?_of_mem hex
    obtain ⟨n, hn, e1, e2⟩ := hat j e hj
    obtain ⟨p, k, en, hp3⟩ := few.2.2 n (List.mem_of_getElem? hn)
    subst en
    have kq := (hk e hex).mono g
    rw [e1] at kq
    have kq0 := kq
    obtain ⟨qa, qb, eq, h1, h2⟩ := kq
    cases eq
    have hlook : look N (.k p) = some k.at := look_of few.2.1 (List.mem_of_getElem? hn)
    refine ⟨_, rfl, _, _, _, _, rfl, rfl, SqT.of h1, rfl, ?_⟩
    refine ⟨_, rfl, _, rfl, d, nv N, .k p, _, rfl, ⟨ep, xs, g _ _ hd, hx, fun x hx' => (hk x hx').mono g⟩, kq0, by rw [nv_val, hlook]; rfl, ?_⟩
    refine ⟨_, rfl, _, _, _, _, rfl, rfl, SqT.of h1, rfl, rfl, _, rfl, iteF' dKS ?_⟩
    refine ⟨_, rfl, rfl, _, rfl, ?_⟩
    have noS : ∀ p', Qn.s p' ∉ nkeys N := fun p' m => by
      obtain ⟨a, m⟩ := mem_nkeys.mp m
      obtain ⟨_, _, z, _⟩ := few.2.2 _ m
      cases z
    have eKeys : es.map (·.1) |>.Perm (nkeys N) := by
      have := hperm.map (fun e : QE => e.1)
      rw [show xs.map (fun e : QE => e.1) = nkeys N by rw [← nv_keys, hx, prj_keys]] at this
      exact this
    have eNd : (es.map (·.1)).Nodup := eKeys.nodup_iff.mpr few.2.1
    have eT : es.take (i + 1) = es.take i ++ [e] := by rw [List.take_add_one, he]; rfl
    have inD : ∀ {q : Qn}, q ∈ (es.take i).map (·.1) → q ∈ nkeys N := fun {q} m => eKeys.mem_iff.mp (((List.take_sublist i es).map _).subset m)
    have child : ∀ b, Qn.k (p ++ [b]) ∈ nkeys N → Qn.k (p ++ [b]) ∈ (es.take i).map (·.1) := fun b m => by
      obtain ⟨e', he', e1'⟩ := List.mem_map.mp (eKeys.mem_iff.mpr m)
      obtain ⟨j', hj'⟩ := List.getElem?_of_mem he'
      refine List.mem_map.mpr ⟨e', ?_, e1'⟩
      have hl1 : e'.1.pl.length = p.length + 1 := by rw [e1']; simp [Qn.pl]
      have hl2 : e.1.pl.length = p.length := by rw [e1]; rfl
      by_cases hlt : j' < i
      · exact List.mem_iff_getElem?.mpr ⟨j', by rw [List.getElem?_take, if_pos hlt]; exact hj'⟩
      · exfalso
        by_cases heq : j' = i
        · rw [heq, he] at hj'
          cases hj'
          omega
        · have z := List.pairwise_iff_getElem.mp hsort i j' (by omega) (List.getElem?_eq_some_iff.mp hj').1 (by omega)
          rw [(List.getElem?_eq_some_iff.mp he).2, (List.getElem?_eq_some_iff.mp hj').2] at z
          omega
    have notD : Qn.k p ∉ (es.take i).map (·.1) := fun m => by
      obtain ⟨e', he', e1'⟩ := List.mem_map.mp m
      obtain ⟨j', hj'⟩ := List.mem_iff_getElem?.mp he'
      rw [List.getElem?_take] at hj'
      split at hj'
      · have z := List.pairwise_iff_getElem.mp eNd j' i (by rw [List.length_map]; exact (List.getElem?_eq_some_iff.mp hj').1) (by rw [List.length_map]; exact hi) (by omega)
        rw [List.getElem_map, List.getElem_map, (List.getElem?_eq_some_iff.mp hj').2, (List.getElem?_eq_some_iff.mp he).2] at z
        exact z (by rw [e1', e1])
      · cases hj'
    have bK := build_k (sn := sn) (st := st) (M := 3) hp3 hlook (noS p)
    have hplen : p.length ≤ 900 := by omega
    have dbN : H db = none := hdb
    have lfN : lf ≠ db := fun z => by rw [z, hb] at hl; cases hl
    -- behind the put
    have fin : ∀ (H3 : Hp) (v : V) (o7 o8 : Option V), Same H' H3 → Is H3 v (Va.d (build N sn st 3 p)) →
        ∃ o4 o5' o6 o7' o8' kvs', [some (V.ref d), some (V.ref ds), some (V.ref db), some (V.ref lf), some (V.ref e.2.1), some (V.ref qb), some (V.str k.word), o7, o8] = [some (V.ref d), some (V.ref ds), some (V.ref db), some (V.ref lf), o4, o5', o6, o7', o8'] ∧ Same H (upd H3 db (.dT (putK kvs (pk p) v))) ∧ upd H3 db (.dT (putK kvs (pk p) v)) db = some (.dT kvs') ∧ upd H3 db (.dT (putK kvs (pk p) v)) lf = some (.lst (es.map fun e => V.ref e.2.1)) ∧ kvs'.length ≤ i + 1 ∧ Bt N sn st (upd H3 db (.dT (putK kvs (pk p) v))) kvs' ((es.take (i + 1)).map (·.1)) := fun H3 v o7 o8 g3 iv => by
      have tk := tk_dT (g3 _ _ hb) (.dT (putK kvs (pk p) v))
      refine ⟨_, _, _, _, _, _, rfl, (g.trans g3).upd dbN _ (notf (g3 _ _ hb)), upd_same, by rw [upd_ne lfN]; exact g3 _ _ hl, ?_, ?_⟩
      · unfold putK
        split
        · rw [List.length_map]; omega
        · simp; omega
      · rw [eT, List.map_append, List.map_cons, e1]
        exact bt.put (fun b xs z => tk _ _ (g3 _ _ z)) (iv.tk tk)
    by_cases hkp : k = .p
    · subst hkp
      refine iteT' dsY ?_
      have hb1 := hb
      refine ⟨_, rfl, ⟨db, rfl, .inr (.inr ⟨kvs, hb⟩)⟩, _, rfl, lenOk rfl, plus_bit false hplen h2 fun x5 H5 g5 ⟨m5, e5, hm5⟩ => ?_⟩
      subst e5
      refine ⟨_, rfl, ds, .int sn, rfl, by rw [← get_num sn st]; exact DGet.k (k := .inr "number") (g5 _ _ (g _ _ hds)), db, .ref m5, .int sn, _, rfl, rfl, DGet.t (g5 _ _ hb) (by rw [pk_kV]; exact hm5), ?_⟩
      have i5 := (bt.get (noS _) (child false) inD).mono g5
      refine ⟨_, rfl, ⟨db, rfl, .inr (.inr ⟨kvs, g5 _ _ hb⟩)⟩, _, rfl, lenOk rfl, plus_bit true hplen (g5 _ _ h2) fun x6 H6 g6 ⟨m6, e6, hm6⟩ => ?_⟩
      subst e6
      have g56 := g5.trans g6
      refine ⟨_, rfl, ds, .int sn, rfl, by rw [← get_num sn st]; exact DGet.k (k := .inr "number") (g56 _ _ (g _ _ hds)), db, .ref m6, .int sn, _, rfl, rfl, DGet.t (g56 _ _ hb) (by rw [pk_kV]; exact hm6), ?_⟩
      have i6 := (bt.get (noS _) (child true) inD).mono g56
      refine ⟨_, rfl, _, rfl, lenOk rfl, fun t7 ht7 => ?_⟩
      have g7 := same_new ht7 (.tup [(valV kvs (pk (p ++ [false]))).getD (.int sn), (valV kvs (pk (p ++ [true]))).getD (.int sn)])
      have g57 := g56.trans g7
      refine ⟨_, rfl, _, rfl, db, _, rfl, DPut.t (g57 _ _ hb) (by rw [pk_kV]; exact g57 _ _ h2) (lt_line (by omega)), ?_⟩
      refine fin _ _ _ _ g57 ?_
      rw [bK]
      exact .t2 upd_same (i5.mono (g6.trans g7)) (i6.mono g7)
    · refine iteF' (show decide (V.str k.word = V.str "pair") = false by rw [dec_wordP]; exact decide_eq_false hkp) ?_
      have sv : ∃ v, valV (strangeD sn st) (.inr k.word) = some v ∧ ∀ H3, Is H3 v (Va.d (build N sn st 3 p)) := by
        rw [bK]
        cases k with
        | p => exact absurd rfl hkp
        | n => exact ⟨.int sn, get_num sn st, fun _ => .int sn⟩
        | t => exact ⟨.str st, get_txt sn st, fun _ => .str st⟩
      obtain ⟨v, sv1, sv2⟩ := sv
      have vn := (bt p).2 notD
      refine ⟨_, rfl, ⟨db, rfl, .inr (.inr ⟨kvs, hb⟩)⟩, _, rfl, _, rfl, _, rfl, ds, v, rfl, by rw [← sv1]; exact DGet.k (k := .inr k.word) (g _ _ hds), db, qb, kvs, pk p, v, rfl, rfl, hb, by rw [pk_kV]; exact h2, vn, lt_line (by omega), ?_⟩
      rw [← putK_new v vn]
      exact fin H' v _ _ (Same.refl _) (sv2 _)
  · obtain ⟨o4, o5, o6, o7, o8, kvs, rfl, g, hb, hl, hkl, bt⟩ := z
    refine ⟨_, rfl, ⟨db, rfl, .inr (.inr ⟨kvs, hb⟩)⟩, lenOk rfl, fun te hte => ?_⟩
    have g2 := same_new hte (.tup [])
    have noS : ∀ p', Qn.s p' ∉ nkeys N := fun p' m => by
      obtain ⟨a, m⟩ := mem_nkeys.mp m
      obtain ⟨_, _, z, _⟩ := few.2.2 _ m
      cases z
    have eKeys : es.map (·.1) |>.Perm (nkeys N) := by
      have := hperm.map (fun e : QE => e.1)
      rw [show xs.map (fun e : QE => e.1) = nkeys N by rw [← nv_keys, hx, prj_keys]] at this
      exact this
    rw [List.length_map, List.take_length] at bt
    refine ⟨_, rfl, ds, .int sn, rfl, by rw [← get_num sn st]; exact DGet.k (k := .inr "number") (g2 _ _ (g _ _ hds)), db, .ref te, .int sn, _, rfl, rfl, DGet.t (k := pk []) (g2 _ _ hb) upd_same, q _ _ (g.trans g2) ?_⟩
    exact (bt.get (noS _) (fun m => eKeys.mem_iff.mpr m) (fun m => eKeys.mem_iff.mp m)).mono g2
end
end ST
set_option Elab.async false
set_option linter.all false
set_option maxRecDepth 100000
set_option maxHeartbeats 4000000
namespace ST
variable [TN]
open PySem L2
theorem beside_nil (ns : Needs) : beside ns [] = some ns := by
  unfold beside
  have h1 : ns.all (agree []) = true := by
    rw [List.all_eq_true]; intro n _; rfl
  rw [if_pos h1]
  congr 1
  exact List.filter_eq_self.mpr fun n _ => rfl
theorem besideRow_nil {rn : List Needs} {i : Nat} {ns : Needs} (h : rn[i]? = some ns) : besideRow rn [] i = if kindsOnly ns = true then some (rowOn i ns) else none := by
  unfold besideRow
  rw [h, Option.bind_some, beside_nil]
theorem range_snoc {β : Type} (f : Nat → Option β) (i : Nat) : (List.range (i + 1)).filterMap f = (List.range i).filterMap f ++ (f i).toList := by
  rw [List.range_succ, List.filterMap_append]
  cases e : f i <;> simp [e]
theorem yes {σ : L2.St} {H : Hp} {Q : Bool → Hp → Prop} (h : Q true H) : tYes σ H Q := h
noncomputable def isS : Qn → Bool
  | .k _ => false
  | .s _ => true
theorem kinds_any (ns : Needs) : kindsOnly ns = !(ns.map fun n => isS n.1).any id := by
  induction ns with
  | nil => rfl
  | cons n t ih =>
    unfold kindsOnly at ih ⊢
    rw [List.all_cons, ih, List.map_cons, List.any_cons]
    cases n.1 <;> rfl
section
variable (P : Program) (w : World)
noncomputable def spBeside : Sp := fun vs H Q _ => ∃ (v1 v2 : V) (ns : Needs), vs = [v1, v2] ∧ NsIs P w H v1 ns ∧ NsIs P w H v2 [] ∧ (nkeys ns).Nodup ∧ ns.length ≤ 40 ∧ ∀ r H', Same H H' → NsIs P w H' r ns → Q r H'
noncomputable def spBoth : Sp := fun vs H Q _ => ∃ (v1 v2 : V) (ns : Needs), vs = [v1, v2] ∧ NsIs P w H v1 [] ∧ NsIs P w H v2 ns ∧ Few ns ∧ ∀ r H', Same H H' → NsIs P w H' r ns → Q r H'
noncomputable def spMay : Sp := fun vs H Q _ => ∃ (v : V) (ns : Needs), vs = [v] ∧ NsIs P w H v ns ∧ ns.length ≤ 40 ∧ ∀ H', Same H H' → Q (.bl (kindsOnly ns)) H'
noncomputable def spRowsBeside : Sp := fun vs H Q _ => ∃ (l : Addr) (ys : List V) (rn : List Needs) (v : V), vs = [.ref l, v] ∧ H l = some (.lst ys) ∧ Nss P w H ys rn ∧ Rns rn ∧ NsIs P w H v [] ∧
  ∀ l' ys' H', Same H H' → H l' = none → H' l' = some (.lst ys') → Rws P w H' ys' (rowsBeside rn []) → Q (.ref l') H'
end
seal L2.PE L2.PA L2.PS L2.PSs L2.PT L2.PW L2.PG L2.PGs L2.PI
section
variable {P : Program} {w : World} {K : PySem.W.Frag} {mg : Str → Option Value} {base : Heap}
theorem sc_needs_beside : FnScope ["needs", "met", "left", "question"] ["needs", "met"] (defScope s_needs_beside) := ⟨rfl, rfl, rfl, by decide +kernel, rfl, by decide +kernel, by decide +kernel⟩
theorem ok_beside (FN : FunAt K mg "needs_beside" s_needs_beside ["needs", "met"]) (B : Blt mg) : Callee P w K mg base 1 "needs_beside" ["needs", "met"] (spBeside P w) := by
  refine FN.ok sc_needs_beside (fun vs H Q E h => ?_) (fun f cdv A outer s H vs Q E hr h => ?_)
  · obtain ⟨v1, v2, ns, rfl, _⟩ := h
    rfl
  obtain ⟨v1, v2, ns, rfl, ⟨d, rfl, ep, xs, hd, hx, hk⟩, ⟨d2, rfl, q2⟩, hnd, h40, q⟩ := h
  obtain ⟨hxl, hat⟩ := nv_prj hx
  refine ⟨_, ((pss_cons (ps_set (i := 2) sc_needs_beside.nd rfl (Or.inl rfl) pe_qnew)
    (pss_cons (ps_for PassesOwn.never rfl (pi_q (pv 0)) (pg_name (i := 3) sc_needs_beside.nd rfl (Or.inl rfl))
      (pss_one (ps_if (pt_cmpR (op_qnotin (hu2_of hr)) (pv 3) (pv 1) (by with_unfolding_all rfl))
        (pss_one (ps_asg (pe_qget (hu2_of hr) (pv 0) (pv 3) (fun _ _ => rfl)) (pg_sub (pv 2) (pv 3) (set_q (hu2_of hr)))))
        (pss_one (ps_if (pt_cmpR op_ne (pe_qget (hu2_of hr) (pv 1) (pv 3) (fun _ _ => rfl)) (pe_qget (hu2_of hr) (pv 0) (pv 3) (fun _ _ => rfl)) (nomark _)) pss_never pss_nil)))))
    (pss_one (ps_ret (pv 2)))))), ?_⟩
  intro dl epl hdl
  have g0 := same_new hdl (dQ P w dl epl [])
  refine ⟨_, rfl, d, ep, xs, rfl, g0 _ _ hd, ?_⟩
  refine for_n itn_q (fun i σ' H' => ∃ o3, σ' = [some (.ref d), some (.ref d2), some (.ref dl), o3] ∧ Same H H' ∧ QD P w H' dl (nv (ns.take i))) ⟨_, rfl, g0, epl, [], upd_same, rfl, fun x hx => by simp at hx⟩ (fun i σ' H' _ z => by obtain ⟨_, _, g, _⟩ := z; exact g _ _ hd) (fun i x σ' H' hi hx' z => ?_) (fun σ' H' z => ?_)
  · obtain ⟨o3, rfl, g, epz, zs, ez, hz, hzk⟩ := z
    obtain ⟨e, he, rfl⟩ := hx'
    obtain ⟨n, hn, e1, e2⟩ := hat i e he
    have kq := (hk e (List.mem_of_getElem? he)).mono g
    have et : ns.take (i + 1) = ns.take i ++ [(e.1, n.2)] := by rw [List.take_add_one, hn, e1]; rfl
    have hm : (e.1, n.2) ∈ ns := by rw [e1]; exact List.mem_of_getElem? hn
    have hlook : look ns e.1 = some n.2 := look_of hnd hm
    have hnot : e.1 ∉ nkeys (ns.take i) := by
      have h2 := hnd
      rw [← List.take_append_drop (i + 1) ns, et, List.append_assoc] at h2
      exact nd_mid (a := n.2) h2
    refine ⟨_, rfl, _, rfl, d2, _, e.1, rfl, q2.mono g, kq, _, rfl, iteT' rfl ?_⟩
    refine ⟨_, rfl, _, rfl, d, nv ns, e.1, n.2.v, rfl, ⟨ep, xs, g _ _ hd, hx, fun x hx' => (hk x hx').mono g⟩, kq, by rw [nv_val, hlook]; rfl, ?_⟩
    refine ⟨_, rfl, _, rfl, dl, _, epz, zs, e.1, rfl, rfl, ez, hzk, kq, lt_line (by rw [(nv_prj hz).1, List.length_take]; omega), fun ep' => ?_⟩
    refine ⟨_, rfl, g.upd hdl _ (notf ez), ?_⟩
    rw [et]
    exact qd_put ez hz hzk kq hnot
  · obtain ⟨o3, rfl, g, qd⟩ := z
    rw [List.take_of_length_le (by omega)] at qd
    exact ⟨_, rfl, q _ _ g ⟨dl, rfl, qd⟩⟩
theorem sc_needs_of_both : FnScope ["one", "two", "more", "both"] ["one", "two"] (defScope s_needs_of_both) := ⟨rfl, rfl, rfl, by decide +kernel, rfl, by decide +kernel, by decide +kernel⟩
theorem ok_both (FN : FunAt K mg "needs_of_both" s_needs_of_both ["one", "two"]) (B : Blt mg) (AP : Aparts P w) (c_needs_beside : Callee P w K mg base 1 "needs_beside" ["needs", "met"] (spBeside P w)) : Callee P w K mg base 2 "needs_of_both" ["one", "two"] (spBoth P w) := by
  refine FN.ok sc_needs_of_both (fun vs H Q E h => ?_) (fun f cdv A outer s H vs Q E hr h => ?_)
  · obtain ⟨v1, v2, ns, rfl, _⟩ := h
    rfl
  obtain ⟨v1, v2, ns, rfl, n1, n2, few, q⟩ := h
  refine ⟨_, ((pss_cons (ps_set (i := 2) sc_needs_of_both.nd rfl (Or.inl rfl) (pe_callC c_needs_beside hr rfl (pa_cons (pv 1) (pa_cons (pv 0) pa_nil))))
    (pss_cons (ps_if (pt_cmp (pc_isN (pv 2)))
      (pss_one (ps_ret pe_non)) pss_nil)
    (pss_cons (ps_set (i := 3) sc_needs_of_both.nd rfl (Or.inl rfl) (pe_callTy call_dictQ rfl B.dict_ PyProof.Rows.boot_dict (pa_cons (pv 0) pa_nil)))
    (pss_cons (ps_expr (pe_bmD PySem.F.slot_dict_update PySem.F.type_dict_update mt_updateQ (pv 3) (pa_cons (pv 2) pa_nil)))
    (pss_one (ps_ret (pv 3)))))))), ?_⟩
  refine ⟨_, rfl, _, rfl, v2, v1, ns, rfl, n2, n1, few.2.1, few.1, fun r H1 g1 ⟨dm, er, epm, xs, hm, hx, hk⟩ => ?_⟩
  subst er
  obtain ⟨d1, rfl, ep1, ys, h1, hy, hk1⟩ := n1.mono g1
  have hy0 : ys = [] := List.length_eq_zero_iff.mp (nv_prj hy).1
  subst hy0
  have hkn : xs.map (·.1) = nkeys ns := by rw [← prj_keys, ← hx, nv_keys]
  have few' : ∀ x ∈ xs, ∃ p, x.1 = Qn.k p ∧ p.length ≤ 3 := fun x hx' => by
    have m : x.1 ∈ nkeys ns := by rw [← hkn]; exact List.mem_map_of_mem hx'
    obtain ⟨a, m⟩ := mem_nkeys.mp m
    obtain ⟨p, k, e, hp⟩ := few.2.2 _ m
    exact ⟨p, (Prod.mk.inj e).1, hp⟩
  refine ⟨_, rfl, _, rfl, iteF' rfl ?_⟩
  refine ⟨_, rfl, d1, ep1, [], rfl, h1, fun x hx => by simp at hx, AP [] List.nodup_nil (fun x hx => by simp at hx), fun dn epn hdn => ?_⟩
  have g2 := same_new hdn (dQ P w dn epn [])
  have hne : dn ≠ dm := fun z => by rw [z, hm] at hdn; cases hdn
  refine ⟨_, rfl, ⟨dn, rfl, .inl ⟨epn, [], upd_same⟩⟩, _, rfl, dn, epn, dm, epm, xs, rfl, rfl, upd_same, g2 _ _ hm, fun x hx' => (hk x hx').mono g2, AP xs (by rw [hkn]; exact few.2.1) few', hne, fun ep' => ?_⟩
  have g3 : Same H1 (upd (upd H1 dn (dQ P w dn epn [])) dn (dQ P w dn ep' xs)) := g2.upd hdn _ (notf upd_same)
  exact ⟨_, rfl, q _ _ (g1.trans g3) ⟨dn, rfl, ep', xs, upd_same, hx, fun x hx' => (hk x hx').mono g3⟩⟩
theorem sc_may_be_fit : FnScope ["left"] ["left"] (defScope s_may_be_fit) := ⟨rfl, rfl, rfl, by decide +kernel, rfl, by decide +kernel, by decide +kernel⟩
theorem ok_may (FN : FunAt K mg "may_be_fit" s_may_be_fit ["left"]) (B : Blt mg) : Callee P w K mg base 1 "may_be_fit" ["left"] (spMay P w) := by
  refine FN.ok sc_may_be_fit (fun vs H Q E h => ?_) (fun f cdv A outer s H vs Q E hr h => ?_)
  · obtain ⟨v, ns, rfl, _⟩ := h
    rfl
  obtain ⟨v, ns, rfl, ⟨d, rfl, ep, xs, hd, hx, hk⟩, h40, q⟩ := h
  obtain ⟨hxl, hat⟩ := nv_prj hx
  refine ⟨_, ((pss_one (ps_ret (pe_and (pe_cmp (pc_notN (pv 0))) (pe_one (pe_not (pe_callB (call_anyB rfl) rfl B.any_ (by rfl) (pa_cons (pe_lcompS rfl (pi_q (pv 0)) (cloS_of (defScope s_may_be_fit).names ["left"] rfl rfl (by decide +kernel) rfl) (fun cl C s₀ H₀ ex => (pe_cmpR op_eq (pe_ix (ix_tupC (K := K) rfl) (pv 0) pe_int (fun _ _ => rfl)) pe_str (nomark _)))) pa_nil)))))))), ?_⟩
  refine ⟨_, rfl, _, rfl, iteT' rfl ⟨_, rfl, d, ep, xs, rfl, hd, comp_n itn_q (fun i ys H' => Same H H' ∧ ys = ((ns.take i).map fun n => isS n.1).map V.bl) (le_line (by omega)) ⟨Same.refl H, rfl⟩ (fun i ys H' _ z => z.1 _ _ hd) (fun i x ys H' NB NY hi hy z k0 k1 => ?_) (fun ys H' z hy l hlf => ?_)⟩⟩
  · obtain ⟨e, he, rfl⟩ := hy
    obtain ⟨n, hn, e1, e2⟩ := hat i e he
    obtain ⟨g, rfl⟩ := z
    obtain ⟨qa, qb, eq, h1, h2⟩ := (hk e (List.mem_of_getElem? he)).mono g
    cases eq
    refine yes (iteT' rfl ?_)
    refine ⟨_, rfl, _, _, _, _, rfl, rfl, SqT.of h1, rfl, rfl, k1 _ _ ⟨g, ?_⟩⟩
    rw [List.take_add_one, hn, e1, List.map_append, List.map_append]
    congr 1
    cases n with
    | mk q a =>
      cases q with
      | k p => exact congrArg (fun b => [V.bl b]) dKS
      | s p => exact congrArg (fun b => [V.bl b]) dSS
  · obtain ⟨g, ez⟩ := z
    rw [List.take_of_length_le (by omega)] at ez
    subst ez
    have g2 := same_new hlf (.lst ((ns.map fun n => isS n.1).map V.bl))
    refine ⟨l, _, rfl, SqL.of upd_same, _, rfl, ?_⟩
    rw [← kinds_any]
    exact q _ (g.trans g2)
theorem sc_rows_beside : FnScope ["rows_needs", "met", "left"] ["rows_needs", "met"] (defScope s_rows_beside) := ⟨rfl, rfl, rfl, by decide +kernel, rfl, by decide +kernel, by decide +kernel⟩
theorem ok_rowsBeside (FN : FunAt K mg "rows_beside" s_rows_beside ["rows_needs", "met"]) (B : Blt mg) (c_needs_beside : Callee P w K mg base 1 "needs_beside" ["needs", "met"] (spBeside P w)) (c_row_on_road : Callee P w K mg base 2 "row_on_road" ["number", "needs"] (spRowOn P w)) (c_may_be_fit : Callee P w K mg base 1 "may_be_fit" ["left"] (spMay P w)) (c_up_to_settled : Callee P w K mg base 1 "up_to_settled" ["rows"] (spUpTo P w)) : Callee P w K mg base 3 "rows_beside" ["rows_needs", "met"] (spRowsBeside P w) := by
  refine FN.ok sc_rows_beside (fun vs H Q E h => ?_) (fun f cdv A outer s H vs Q E hr h => ?_)
  · obtain ⟨l, ys, rn, v, rfl, _⟩ := h
    rfl
  obtain ⟨l, ys, rn, v, rfl, hl, hns, ⟨h50, h40⟩, hv, q⟩ := h
  have hlen := prd_len hns
  refine ⟨_, ((pss_cons (ps_set (i := 2) sc_rows_beside.nd rfl (Or.inr rfl) (pe_lcompS rfl (pi_list (pv 0)) (cloS_of (defScope s_rows_beside).names ["rows_needs", "met", "left"] rfl rfl (by decide +kernel) rfl) (fun cl C s₀ H₀ ex => (pe_callC c_needs_beside hr rfl (pa_cons (pv 0) (pa_cons (pv 2) pa_nil))))))
    (pss_one (ps_ret (pe_callC c_up_to_settled hr rfl (pa_cons (pe_lcompIS rfl (pi_range1 rfl B.range_ (pa_cons (pe_callB call_len_seq rfl B.len_ PySem.boot_len (pa_cons (pv 2) pa_nil)) pa_nil)) (cloS_of (defScope s_rows_beside).names ["rows_needs", "met", "left"] rfl rfl (by decide +kernel) rfl) (fun cl C s₀ H₀ ex => pifs_one (pt_val (pe_callC c_may_be_fit hr rfl (pa_cons (pe_ix (ix_listC (K := K) rfl) (pv 3) (pv 0) (fun _ _ => rfl)) pa_nil)))) (fun cl C s₀ H₀ ex => (pe_callC c_row_on_road hr rfl (pa_cons (pv 0) (pa_cons (pe_ix (ix_listC (K := K) rfl) (pv 3) (pv 0) (fun _ _ => rfl)) pa_nil))))) pa_nil)))))), ?_⟩
  refine ⟨_, rfl, l, rfl, ⟨ys, SqL.of hl⟩, comp_n (itn_l (xs := ys)) (fun i zs H' => Same H H' ∧ zs.length = i ∧ Nss P w H' zs (rn.take i)) (le_line (by omega)) ⟨Same.refl H, rfl, .nil⟩ (fun i zs H' _ z => SqL.of (z.1 _ _ hl)) (fun i x zs H' NB NY hi hy z k0 k1 => ?_) (fun zs H1 z hz ll hll => ?_)⟩
  · obtain ⟨ns, hn, nx⟩ := prd_get hns hy
    obtain ⟨hn40, hnd⟩ := h40 ns (List.mem_of_getElem? hn)
    refine yes (iteT' rfl ?_)
    refine ⟨_, rfl, _, rfl, _, _, ns, rfl, nx.mono z.1, hv.mono z.1, hnd, hn40, fun r H2 g2 hr2 => k1 _ _ ⟨z.1.trans g2, by rw [List.length_append, z.2.1]; rfl, ?_⟩⟩
    rw [List.take_add_one, hn]
    exact prd_app (Nss.mono g2 z.2.2) (.cons hr2 .nil)
  obtain ⟨g1, hzl, hzn⟩ := z
  rw [List.take_of_length_le (by omega)] at hzn
  have gl := same_new hll (.lst zs)
  have gA := g1.trans gl
  have hzl' := prd_len hzn
  refine ⟨_, rfl, ll, zs, rfl, .inl (SqL.of upd_same), _, rfl, by omega, by omega, comp_n itn_r (fun i rs H' => Same (upd H1 ll (.lst zs)) H' ∧ Rws P w H' rs ((List.range i).filterMap (besideRow rn []))) (le_line (by omega)) ⟨Same.refl _, .nil⟩ (fun _ _ _ _ _ => True.intro) (fun i x rs H' NB NY hi hy z k0 k1 => ?_) (fun rs H2 z hz lr hlr => ?_)⟩
  · subst hy
    have hi' : i < rn.length := by omega
    have hn : rn[i]? = some rn[i] := List.getElem?_eq_getElem hi'
    generalize rn[i] = ns at hn
    obtain ⟨hn40, hnd⟩ := h40 ns (List.mem_of_getElem? hn)
    obtain ⟨v, hv1, hv2⟩ := prd_at hzn hn
    have hix : atI zs (0 + (i : Int)) = some v := by rw [Int.zero_add]; exact atI_nat hv1
    have hv3 := hv2.mono (gl.trans z.1)
    refine ⟨_, rfl, _, rfl, ll, zs, _, v, rfl, rfl, SqL.of (z.1 _ _ upd_same), hix, _, ns, rfl, hv3, hn40, fun H3 g3 => ?_⟩
    have z2 := Rws.mono g3 z.2
    refine ⟨_, rfl, iteB (fun hb => ?_) (fun hb => k0 _ ⟨z.1.trans g3, ?_⟩)⟩
    · refine ⟨_, rfl, _, rfl, _, rfl, ll, zs, _, v, rfl, rfl, SqL.of (g3 _ _ (z.1 _ _ upd_same)), hix, i, v, ns, by simp, hv3.mono g3, by omega, fun r H4 g4 hr4 => k1 _ _ ⟨z.1.trans (g3.trans g4), ?_⟩⟩
      rw [range_snoc, besideRow_nil hn, if_pos hb]
      exact prd_app (Rws.mono g4 z2) (.cons hr4 .nil)
    · rw [range_snoc, besideRow_nil hn, if_neg (by rw [hb]; exact Bool.false_ne_true)]
      simpa using z2
  · have gr := same_new hlr (.lst rs)
    have hz2 := z.2
    have ej : (((zs.length : Nat) : Int)).toNat = rn.length := by rw [Int.toNat_natCast]; omega
    rw [ej] at hz2 hz
    refine ⟨lr, rs, _, rfl, upd_same, Rws.mono gr hz2, by rw [← prd_len hz2]; omega, fun l' ys' H3 g3 hl' e3 r3 => ?_⟩
    have gB := (gA.trans z.1).trans gr
    exact q l' ys' H3 (gB.trans g3) (gB.free hl') e3 r3
end
end ST
set_option Elab.async false
set_option linter.all false
set_option maxRecDepth 100000
set_option maxHeartbeats 4000000
namespace ST
variable [TN]
open PySem L2
section
variable (P : Program) (w : World)
noncomputable def spWeights : Sp := fun vs H Q _ => ∃ (l : Addr) (ys : List V) (rs : List Rw), vs = [.ref l] ∧ H l = some (.lst ys) ∧ Rws P w H ys rs ∧ Rds rs ∧ rs ≠ [] ∧
  ∀ l' (ws : List Int) H', Same H H' → H' l' = some (.lst (ws.map V.int)) → ws.length = rs.length → Q (.ref l') H'
noncomputable def spHeaviest (T : Addr) : Sp := fun vs H Q _ => ∃ (l : Addr) (ys : List V) (rs : List Rw), vs = [.ref l] ∧ H l = some (.lst ys) ∧ Rws P w H ys rs ∧ Rds rs ∧ (∃ r ∈ rs, r.qs ≠ []) ∧ TabQ H T (TN.nm T) ∧
  ∀ v q H', Same H H' → QIs H' v q → (∃ r ∈ rs, q ∈ r.qs) → Q v H'
noncomputable def spWords (T : Addr) : Sp := fun vs H Q _ => ∃ (l : Addr) (ys : List V) (rs : List Rw) (vq : V) (q : Qn), vs = [.ref l, vq] ∧ H l = some (.lst ys) ∧ Rws P w H ys rs ∧ Rds rs ∧ rs ≠ [] ∧ QIs H vq q ∧ TabQ H T (TN.nm T) ∧
  ∀ l' (ks : List Kd) H', Same H H' → H' l' = some (.lst (ks.map fun k => V.str k.word)) → ks.Perm [.n, .t, .p] → Q (.ref l') H'
end
theorem lt_lineB {n : Nat} (h : n ≤ 20000) : n < sizeLine := Nat.lt_of_le_of_lt h (by decide)
theorem nv_len (ns : Needs) : (nv ns).length = ns.length := List.length_map _
seal L2.PE L2.PA L2.PS L2.PSs L2.PT L2.PW L2.PG L2.PGs L2.PI
section
variable {P : Program} {w : World} {K : PySem.W.Frag} {mg : Str → Option Value} {base : Heap}
theorem sc_weights_of : FnScope ["rows", "longest", "powers"] ["rows"] (defScope s_weights_of) := ⟨rfl, rfl, rfl, by decide +kernel, rfl, by decide +kernel, by decide +kernel⟩
theorem ok_weights (FN : FunAt K mg "weights_of" s_weights_of ["rows"]) (B : Blt mg) : Callee P w K mg base 1 "weights_of" ["rows"] (spWeights P w) := by
  refine FN.ok sc_weights_of (fun vs H Q E h => ?_) (fun f cdv A outer s H vs Q E hr h => ?_)
  · obtain ⟨l, ys, rs, rfl, _⟩ := h
    rfl
  obtain ⟨l, ys, rs, rfl, hl, hrs, ⟨hn, hrd⟩, hne, q⟩ := h
  have hlen := prd_len hrs
  refine ⟨_, ((pss_cons (ps_set (i := 1) sc_weights_of.nd rfl (Or.inr rfl) (pe_callB (call_maxI rfl) rfl B.max_ (by rfl) (pa_cons (pe_lcompS rfl (pi_list (pv 0)) (cloS_of (defScope s_weights_of).names ["rows", "longest", "powers"] rfl rfl (by decide +kernel) rfl) (fun cl C s₀ H₀ ex => (pe_callB (call_lenQC (P := P) (w := w) rfl rfl) rfl B.len_ PySem.boot_len (pa_cons (pe_ix (ix_tupC (K := K) rfl) (pv 0) pe_int (fun _ _ => rfl)) pa_nil)))) pa_nil)))
    (pss_cons (ps_set (i := 2) sc_weights_of.nd rfl (Or.inr rfl) (pe_lst (pa_cons pe_int pa_nil)))
    (pss_cons (ps_mid (ps_while PassesOwn.never (pt_cmpR op_le (pe_callB call_len_seq rfl B.len_ PySem.boot_len (pa_cons (pv 2) pa_nil)) (pv 1) (nomark _))
      (pss_one (ps_expr (pe_bm F.plainAttrs_list F.slot_list_append tyApp mt_append (pv 2) (pa_cons (pe_op op_mul (pe_ix ix_list (pv 2) (pe_op op_sub (pe_callB call_len_seq rfl B.len_ PySem.boot_len (pa_cons (pv 2) pa_nil)) pe_int) (fun _ _ => rfl)) pe_int) pa_nil))))))
    (pss_one (ps_ret (pe_lcompS rfl (pi_list (pv 0)) (cloS_of (defScope s_weights_of).names ["rows", "longest", "powers"] rfl rfl (by decide +kernel) rfl) (fun cl C s₀ H₀ ex => (pe_ix (ix_listC (K := K) rfl) (pv 3) (pe_op op_sub (pv 2) (pe_callB (call_lenQC (P := P) (w := w) rfl rfl) rfl B.len_ PySem.boot_len (pa_cons (pe_ix (ix_tupC (K := K) rfl) (pv 0) pe_int (fun _ _ => rfl)) pa_nil))) (fun _ _ => rfl)))))))))), ?_⟩
  refine ⟨_, rfl, l, rfl, ⟨ys, SqL.of hl⟩, comp_n (itn_l (xs := ys)) (fun i zs H' => Same H H' ∧ zs = ((rs.take i).map fun r => ((r.ns.length : Nat) : Int)).map V.int) (le_line (by omega)) ⟨Same.refl H, rfl⟩ (fun i zs H' _ z => SqL.of (z.1 _ _ hl)) (fun i x zs H' NB NY hi hy z k0 k1 => ?_) (fun zs H1 z hz ll hll => ?_)⟩
  · obtain ⟨r, hr1, p, nd, lq, qs, rfl, h1, h2, h3, h4⟩ := prd_get hrs hy
    obtain ⟨g, rfl⟩ := z
    obtain ⟨d, rfl, qd⟩ := h2.mono g
    refine yes (iteT' rfl ?_)
    refine ⟨_, rfl, p, _, _, _, rfl, rfl, SqT.of (g _ _ h1), rfl, d, _, rfl, qd, k1 _ _ ⟨g, ?_⟩⟩
    rw [List.take_add_one, hr1, List.map_append, List.map_append, nv_len]
    rfl
  obtain ⟨g1, ez⟩ := z
  rw [List.take_of_length_le (by omega)] at ez
  subst ez
  have g2 := same_new hll (.lst ((rs.map fun r => ((r.ns.length : Nat) : Int)).map V.int))
  refine ⟨ll, _, rfl, SqL.of upd_same, by rw [List.length_map]; exact List.length_pos_iff.mpr hne, fun mx hmx hall => ?_⟩
  obtain ⟨r0, hr0, emx⟩ := List.mem_map.mp hmx
  have hmx40 : mx ≤ 40 := by rw [← emx]; have := (hrd r0 hr0).1.1; omega
  refine ⟨lenOk rfl, fun lp hlp => ?_⟩
  have g3 := same_new hlp (.lst [V.int 1])
  have gA := g1.trans (g2.trans g3)
  refine ⟨fun σ' H' => ∃ ps : List Int, σ' = [some (.ref l), some (.int mx), some (.ref lp)] ∧ Same H H' ∧ H' lp = some (.lst (ps.map V.int)) ∧ mx < (ps.length : Int), ?_, ?_⟩
  · refine ⟨fun m σ' H' => ∃ ps : List Int, σ' = [some (.ref l), some (.int mx), some (.ref lp)] ∧ Same H H' ∧ H' lp = some (.lst (ps.map V.int)) ∧ 1 ≤ ps.length ∧ ps.length ≤ 41 ∧ m = 41 - ps.length, ⟨_, [1], rfl, gA, upd_same, Nat.le_refl _, by decide, rfl⟩, ?_⟩
    rintro m σ' H' ⟨ps, rfl, g, hp, h1, h41, rfl⟩
    refine ⟨_, rfl, lp, _, rfl, .inl (SqL.of hp), _, rfl, ?_⟩
    have hpl : (ps.map V.int).length = ps.length := List.length_map _
    refine ⟨_, _, rfl, rfl, _, rfl, iteB (fun hb => ?_) (fun hb => ?_)⟩
    · have hb' : ((ps.map V.int).length : Int) ≤ mx := of_decide_eq_true hb
      rw [hpl] at hb'
      obtain ⟨n, hn⟩ := int_at (ns := ps) (i := (ps.length : Int) - 1) (by omega) (by omega)
      refine ⟨_, fun σ1 H1 z => z, ?_⟩
      refine ⟨_, rfl, .inl ⟨rfl, _, SqL.of hp⟩, _, rfl, _, rfl, lp, _, rfl, .inl (SqL.of hp), _, _, rfl, rfl, lp, _, _, _, rfl, rfl, SqL.of hp, by rw [hpl]; exact hn, _, _, rfl, rfl, .inr ⟨by decide, by decide⟩, lp, _, _, rfl, rfl, hp, lt_line (by rw [hpl]; omega), ?_⟩
      refine ⟨41 - (ps.length + 1), by omega, ps ++ [n * 3], rfl, g.upd ((g1.trans g2).free hlp) _, by rw [upd_same, List.map_append]; rfl, by simp, by simp; omega, by simp⟩
    · have hb' : ¬ ((ps.map V.int).length : Int) ≤ mx := of_decide_eq_false hb
      rw [hpl] at hb'
      exact ⟨ps, rfl, g, hp, by omega⟩
  · rintro σ' H' ⟨ps, rfl, g, hp, hlt⟩
    have hpl : (ps.map V.int).length = ps.length := List.length_map _
    refine ⟨_, rfl, l, rfl, ⟨ys, SqL.of (g _ _ hl)⟩, comp_n (itn_l (xs := ys)) (fun i zs H2 => Same H' H2 ∧ ∃ ws : List Int, ws.length = i ∧ zs = ws.map V.int) (le_line (by omega)) ⟨Same.refl _, [], rfl, rfl⟩ (fun i zs H2 _ z => SqL.of (z.1 _ _ (g _ _ hl))) (fun i x zs H2 NB NY hi hy z k0 k1 => ?_) (fun zs H2 z hz lz hlz => ?_)⟩
    · obtain ⟨r, hr1, p, nd, lq, qs, rfl, h1, h2, h3, h4⟩ := prd_get hrs hy
      obtain ⟨gz, ws, hw, rfl⟩ := z
      have gz2 := g.trans gz
      obtain ⟨d, rfl, qd⟩ := h2.mono gz2
      have hle : ((r.ns.length : Nat) : Int) ≤ mx := hall _ (List.mem_map.mpr ⟨r, List.mem_of_getElem? hr1, rfl⟩)
      obtain ⟨n, hn⟩ := int_at (ns := ps) (i := mx - (((nv r.ns).length : Nat) : Int)) (by rw [nv_len]; omega) (by rw [nv_len]; omega)
      refine yes (iteT' rfl ?_)
      refine ⟨_, rfl, _, rfl, _, rfl, p, _, _, _, rfl, rfl, SqT.of (gz2 _ _ h1), rfl, d, _, rfl, qd, _, _, rfl, rfl, lp, _, _, _, rfl, rfl, SqL.of (gz _ _ hp), hn, k1 _ _ ⟨gz, ws ++ [n], by simp [hw], by simp⟩⟩
    · obtain ⟨gz, ws, hw, rfl⟩ := z
      have gl := same_new hlz (.lst (ws.map V.int))
      exact q lz ws _ ((g.trans gz).trans gl) upd_same (by omega)
end
end ST
set_option Elab.async false
set_option linter.all false
set_option maxRecDepth 100000
set_option maxHeartbeats 4000000
namespace ST
variable [TN]
open PySem L2
structure Sums (P : Program) (w : World) (rs : List Rw) (H' : Hp) (ds : Addr) (n : Nat) (kvs : List (Qn × V)) : Prop where
  qd : QD P w H' ds kvs
  len : kvs.length ≤ n
  int : ∀ kv ∈ kvs, (∃ i, kv.2 = .int i) ∧ ∃ r ∈ rs, kv.1 ∈ r.qs
theorem Sums.val {P : Program} {w : World} {rs : List Rw} {H' : Hp} {ds : Addr} {n : Nat} {kvs : List (Qn × V)} (S : Sums P w rs H' ds n kvs) (q : Qn) : ∃ i, (valV kvs q).getD (.int 0) = .int i := by
  cases e : valV kvs q with
  | none => exact ⟨0, rfl⟩
  | some v =>
    unfold valV at e
    cases f : kvs.find? fun kv => decide (kv.1 = q) with
    | none => rw [f] at e; cases e
    | some kv =>
      rw [f] at e
      cases e
      exact (S.int kv (List.mem_of_find?_eq_some f)).1
theorem putK_ne {α : Type} [DecidableEq α] (kvs : List (α × V)) (k : α) (v : V) : putK kvs k v ≠ [] := by
  intro z
  have h := congrArg List.length z
  unfold putK at h
  split at h
  · rename_i c
    rw [List.length_map] at h
    rw [List.length_eq_zero_iff.mp h] at c
    cases c
  · simp at h
theorem putK_lenG {α : Type} [DecidableEq α] (kvs : List (α × V)) (k : α) (v : V) : (putK kvs k v).length ≤ kvs.length + 1 := by
  unfold putK
  split
  · rw [List.length_map]; omega
  · simp
theorem putK_mem {α : Type} [DecidableEq α] {kvs : List (α × V)} {k : α} {v : V} {x : α × V} (h : x ∈ putK kvs k v) : x = (k, v) ∨ x ∈ kvs := by
  unfold putK at h
  split at h
  · obtain ⟨y, hy, rfl⟩ := List.mem_map.mp h
    split
    · rename_i e; left; rw [e]
    · exact .inr hy
  · rcases List.mem_append.mp h with z | z
    · exact .inr z
    · exact .inl (List.mem_singleton.mp z)
noncomputable def sums3 (a b c : Int) : List (Key × V) := [(.inr "number", .int a), (.inr "text", .int b), (.inr "pair", .int c)]
theorem lenOk3 {a b c : Int} : (sums3 a b c).length < sizeLine := lt_line (by show 3 ≤ 1000; decide)
noncomputable def pick3 (a b c : Int) : Kd → Int
  | .n => a
  | .t => b
  | .p => c
theorem sums3_val (a b c : Int) (k : Kd) : valV (sums3 a b c) (.inr k.word) = some (.int (pick3 a b c k)) := by
  cases k with
  | n => exact valV_pos rfl
  | t => unfold sums3; rw [valV_neg (fun z => by injection z with z; exact absurd z (by decide +kernel))]; exact valV_pos rfl
  | p => unfold sums3; rw [valV_neg (fun z => by injection z with z; exact absurd z (by decide +kernel)), valV_neg (fun z => by injection z with z; exact absurd z (by decide +kernel))]; exact valV_pos rfl
theorem sums3_put (a b c : Int) (k : Kd) (x : Int) : ∃ a' b' c', putK (sums3 a b c) (.inr k.word) (.int x) = sums3 a' b' c' := by
  have e1 : ¬ (Sum.inr (Str.ofString "text") : Key) = (Sum.inr (Str.ofString "number") : Key) := fun z => by injection z with z; exact absurd z (by decide +kernel)
  have e2 : ¬ (Sum.inr (Str.ofString "pair") : Key) = (Sum.inr (Str.ofString "number") : Key) := fun z => by injection z with z; exact absurd z (by decide +kernel)
  have e3 : ¬ (Sum.inr (Str.ofString "pair") : Key) = (Sum.inr (Str.ofString "text") : Key) := fun z => by injection z with z; exact absurd z (by decide +kernel)
  have hs : ((sums3 a b c).any fun kv => decide (kv.1 = (.inr k.word : Key))) = true := by rw [valV_any, sums3_val]; rfl
  unfold putK
  rw [if_pos hs]
  cases k with
  | n => exact ⟨x, b, c, List.cons_eq_cons.mpr ⟨if_pos rfl, List.cons_eq_cons.mpr ⟨if_neg e1, List.cons_eq_cons.mpr ⟨if_neg e2, rfl⟩⟩⟩⟩
  | t => exact ⟨a, x, c, List.cons_eq_cons.mpr ⟨if_neg (fun z => e1 z.symm), List.cons_eq_cons.mpr ⟨if_pos rfl, List.cons_eq_cons.mpr ⟨if_neg e3, rfl⟩⟩⟩⟩
  | p => exact ⟨a, b, x, List.cons_eq_cons.mpr ⟨if_neg (fun z => e2 z.symm), List.cons_eq_cons.mpr ⟨if_neg (fun z => e3 z.symm), List.cons_eq_cons.mpr ⟨if_pos rfl, rfl⟩⟩⟩⟩
seal L2.PE L2.PA L2.PS L2.PSs L2.PT L2.PW L2.PG L2.PGs L2.PI
section
variable {P : Program} {w : World} {K : PySem.W.Frag} {mg : Str → Option Value} {base : Heap}
theorem sc_weightiest_question : FnScope ["rows", "weights", "sums", "index", "question"] ["rows"] (defScope s_weightiest_question) := ⟨rfl, rfl, rfl, by decide +kernel, rfl, by decide +kernel, by decide +kernel⟩
theorem ok_heaviest {T : Addr} (FN : FunL K mg "weightiest_question" s_weightiest_question ["rows"] T) (B : Blt mg) (BM : BmAt mg base) (HN : (("weightiest_question" : Str) ++ ".<locals>.") ++ "<lambda>" = TN.nm T) (c_weights_of : Callee P w K mg base 1 "weights_of" ["rows"] (spWeights P w)) : Callee P w K mg base 4 "weightiest_question" ["rows"] (spHeaviest P w T) := by
  refine FN.ok sc_weightiest_question (fun vs H Q E h => ?_) (fun f c A outer s H vs Q E hcd hr h => ?_)
  · obtain ⟨l, ys, rs, rfl, _⟩ := h
    rfl
  obtain ⟨l, ys, rs, rfl, hl, hrs, hrd, ⟨r0, hr0, hq0⟩, tab, q⟩ := h
  have hlen := prd_len hrs
  have h100 := hrd.1
  have LM : Lm (cxOf CX0 P w K mg base ["rows", "weights", "sums", "index", "question"] "weightiest_question" (defScope s_weightiest_question) f (.ref c) A outer s H E).nox T := ⟨⟨c, rfl, hcd⟩, BM⟩
  have HQ : (cxOf CX0 P w K mg base ["rows", "weights", "sums", "index", "question"] "weightiest_question" (defScope s_weightiest_question) f (.ref c) A outer s H E).nox.env.qual ++ "<lambda>" = TN.nm T := HN
  refine ⟨_, ((pss_cons (ps_set (i := 1) sc_weightiest_question.nd rfl (Or.inl rfl) (pe_callC c_weights_of hr rfl (pa_cons (pv 0) pa_nil)))
    (pss_cons (ps_set (i := 2) sc_weightiest_question.nd rfl (Or.inr rfl) pe_qnew)
    (pss_cons (ps_for PassesOwn.never rfl (pi_range1 rfl B.range_ (pa_cons (pe_callB call_len_seq rfl B.len_ PySem.boot_len (pa_cons (pv 0) pa_nil)) pa_nil)) (pg_name (i := 3) sc_weightiest_question.nd rfl (Or.inl rfl))
      (pss_one (ps_for PassesOwn.never rfl (pi_list (pe_ix ix_tup (pe_ix ix_list (pv 0) (pv 3) (fun _ _ => rfl)) pe_int (fun _ _ => rfl))) (pg_name (i := 4) sc_weightiest_question.nd rfl (Or.inl rfl))
        (pss_one (ps_asg (pe_op op_add (pe_bmD PySem.F.slot_dict_get PySem.F.type_dict_get (mt_getQ (hu2_of hr)) (pv 2) (pa_cons (pv 4) (pa_cons pe_int pa_nil))) (pe_ix ix_list (pv 1) (pv 3) (fun _ _ => rfl))) (pg_sub (pv 2) (pv 4) (set_q (hu2_of hr))))))))
    (pss_one (ps_ret (pe_maxQ (k := 0) (hs := [4]) rfl (hr.mono (by decide)) rfl B.max_ (pv 2) LM HQ (cloLS_of (x := "question") (defScope s_weightiest_question).names ["rows", "weights", "sums", "index", "question"] rfl rfl (by decide +kernel)) (fun cl A' L' f' cv' s₀ H₀ hr => (pe_qgetC (P := P) (w := w) rfl rfl (hu2_of hr) (pv 3) (pv 0) (fun _ _ => rfl)))))))))), ?_⟩
  refine ⟨_, rfl, l, ys, rs, rfl, hl, hrs, hrd, (fun z => by rw [z] at hr0; simp at hr0), fun lw ws H1 g1 ew hwl => ?_⟩
  intro ds eps hds
  have g2 := same_new hds (dQ P w ds eps [])
  have gA := g1.trans g2
  have nds : H ds = none := g1.free hds
  refine ⟨_, rfl, l, _, rfl, .inl (SqL.of (gA _ _ hl)), _, rfl, by omega, by omega, ?_⟩
  rw [Int.toNat_natCast]
  refine for_n itn_r (fun i σ' H' => ∃ o3 o4 kvs, σ' = [some (.ref l), some (.ref lw), some (.ref ds), o3, o4] ∧ Same H1 H' ∧ Sums P w rs H' ds (100 * i) kvs ∧ ∀ r ∈ rs.take i, r.qs ≠ [] → kvs ≠ []) ⟨_, _, [], rfl, g2, ⟨⟨eps, [], upd_same, rfl, fun x hx => by simp at hx⟩, Nat.zero_le _, fun kv h => by simp at h⟩, fun r h => by simp at h⟩ (fun _ _ _ _ _ => True.intro) (fun i x σ' H' hi hx z => ?_) (fun σ' H' z => ?_)
  · obtain ⟨o3, o4, kvs, rfl, g, S, hnz⟩ := z
    subst hx
    have hi' : i < ys.length := hi
    have hy : ys[i]? = some ys[i] := List.getElem?_eq_getElem hi'
    generalize ys[i] = yr at hy
    obtain ⟨r, hr1, rwx⟩ := prd_get hrs hy
    have gH := g1.trans g
    obtain ⟨p, nd, lq, qs, rfl, h1, h2, h3, h4⟩ := rwx.mono gH
    have hq100 := (hrd.2 r (List.mem_of_getElem? hr1)).2
    have hql := prd_len h4
    obtain ⟨wn, hwn⟩ : ∃ n, atI (ws.map V.int) (0 + (i : Int)) = some (.int n) := int_at (by omega) (by omega)
    have hix : atI ys (0 + (i : Int)) = some (.ref p) := by rw [Int.zero_add]; exact atI_nat hy
    refine ⟨_, rfl, _, rfl, l, ys, _, _, rfl, rfl, SqL.of (gH _ _ hl), hix, p, _, _, _, rfl, rfl, SqT.of h1, rfl, lq, rfl, ⟨qs, SqL.of h3⟩, ?_⟩
    refine for_n (itn_l (xs := qs)) (fun j σ2 H2 => ∃ o4 kvs, σ2 = [some (.ref l), some (.ref lw), some (.ref ds), some (.int (0 + (i : Int))), o4] ∧ Same H1 H2 ∧ H2 lq = some (.lst qs) ∧ Qs H2 qs r.qs ∧ Sums P w rs H2 ds (100 * i + j) kvs ∧ (∀ r ∈ rs.take i, r.qs ≠ [] → kvs ≠ []) ∧ (0 < j → kvs ≠ [])) ⟨_, kvs, rfl, g, h3, h4, S, hnz, fun z => absurd z (Nat.lt_irrefl _)⟩ (fun j σ2 H2 _ z => by obtain ⟨_, _, _, _, z, _⟩ := z; exact SqL.of z) (fun j y σ2 H2 hj hy2 z => ?_) (fun σ2 H2 z => ?_)
    · obtain ⟨o4, kvs, rfl, g, e3, e4, S, hnz, _⟩ := z
      obtain ⟨qq, hqq, kq⟩ := prd_get e4 hy2
      obtain ⟨b, rfl⟩ := qis_ref kq
      obtain ⟨si, hsi⟩ := S.val qq
      obtain ⟨ep, xs, ex, hx, hk⟩ := S.qd
      refine ⟨_, rfl, ⟨ds, rfl, .inl ⟨ep, xs, ex⟩⟩, _, rfl, ds, kvs, .ref b, qq, .int 0, rfl, rfl, S.qd, kq, ?_⟩
      rw [hsi]
      refine ⟨_, rfl, _, rfl, lw, _, _, .int wn, rfl, rfl, SqL.of (g _ _ ew), hwn, _, _, rfl, rfl, _, rfl, _, rfl, ds, b, ep, xs, qq, rfl, rfl, ex, hk, kq, lt_lineB (by have := S.len; rw [hx] at this; unfold prj at this; rw [List.length_map] at this; omega), fun ep' => ?_⟩
      have tk := tk_dQ ex (dQ P w ds ep' (putQ xs qq b (.int (si + wn))))
      have nlq : lq ≠ ds := fun z => by rw [z, ex] at e3; exact nomatch (show some (HO.ext _) = some (HO.lst _) from e3)
      refine ⟨_, putK kvs qq (.int (si + wn)), rfl, g.upd hds _ (notf ex), by rw [upd_ne nlq]; exact e3, prd_imp e4 (fun _ _ z => z.tk tk), ⟨⟨ep', _, upd_same, by rw [prj_put, ← hx], fun x hx' => ?_⟩, ?_, fun kv hkv => ?_⟩, fun _ _ _ => putK_ne _ _ _, fun _ => putK_ne _ _ _⟩
      · rcases putQ_mem hx' with ⟨y, hy, h1, h2⟩ | rfl
        · rw [h1, h2]; exact (hk y hy).tk tk
        · exact kq.tk tk
      · have := putK_lenG kvs qq (.int (si + wn))
        have := S.len
        omega
      · rcases putK_mem hkv with rfl | z
        · exact ⟨⟨_, rfl⟩, r, List.mem_of_getElem? hr1, List.mem_of_getElem? hqq⟩
        · exact S.int kv z
    · obtain ⟨o4, kvs, rfl, g, e3, e4, S, hnz, hjz⟩ := z
      refine ⟨_, _, kvs, rfl, g, ⟨S.qd, by have := S.len; omega, S.int⟩, fun r' hr' hq' => ?_⟩
      rw [List.take_add_one, hr1] at hr'
      rcases List.mem_append.mp hr' with z | z
      · exact hnz r' z hq'
      · have e : r' = r := by simpa using z
        subst e
        exact hjz (by rw [hql]; exact List.length_pos_iff.mpr hq')
  · obtain ⟨o3, o4, kvs, rfl, g, S, hnz⟩ := z
    rw [List.take_of_length_le (by omega)] at hnz
    obtain ⟨ep, xs, ex, hx, hk⟩ := S.qd
    have hxl : xs.length = kvs.length := by rw [hx]; exact (List.length_map _).symm
    refine ⟨_, rfl, ds, ep, xs, rfl, ex, (g1.trans g).tab T tab, by rw [hxl]; exact List.length_pos_iff.mpr (hnz r0 hr0 hq0), fun i e H2 he g2' => ?_, fun i e H2 he g2' => ?_⟩
    · obtain ⟨v, hv⟩ : ∃ v, valV kvs e.1 = some v := by
        cases hh : valV kvs e.1 with
        | some v => exact ⟨v, rfl⟩
        | none =>
          exfalso
          refine valV_not hh ?_
          rw [hx, prj_keys]
          exact List.mem_map_of_mem (List.mem_of_getElem? he)
      obtain ⟨n, hn⟩ := S.val e.1
      rw [hv] at hn
      refine ⟨_, rfl, _, rfl, ds, kvs, e.1, v, rfl, S.qd.mono g2', (hk e (List.mem_of_getElem? he)).mono g2', hv, n, hn, Same.refl _⟩
    · have kq := (hk e (List.mem_of_getElem? he)).mono g2'
      refine q _ e.1 _ ((g1.trans g).trans g2') kq ?_
      have m : (e.1, e.2.2) ∈ kvs := by rw [hx]; exact List.mem_map.mpr ⟨e, List.mem_of_getElem? he, rfl⟩
      exact (S.int _ m).2
theorem sc_words_by_weight : FnScope ["rows", "question", "weights", "sums", "index", "needs"] ["rows", "question"] (defScope s_words_by_weight) := ⟨rfl, rfl, rfl, by decide +kernel, rfl, by decide +kernel, by decide +kernel⟩
theorem ok_words {T kk : Addr} (FN : FunL K mg "words_by_weight" s_words_by_weight ["rows", "question"] T) (B : Blt mg) (BM : BmAt mg base) (KN : Kns K mg kk) (HN : (("words_by_weight" : Str) ++ ".<locals>.") ++ "<lambda>" = TN.nm T) (c_weights_of : Callee P w K mg base 1 "weights_of" ["rows"] (spWeights P w)) : Callee P w K mg base 4 "words_by_weight" ["rows", "question"] (spWords P w T) := by
  refine FN.ok sc_words_by_weight (fun vs H Q E h => ?_) (fun f c A outer s H vs Q E hcd hr h => ?_)
  · obtain ⟨l, ys, rs, vq, qq, rfl, _⟩ := h
    rfl
  obtain ⟨l, ys, rs, vq, qq, rfl, hl, hrs, hrd, hne, hq, tab, q⟩ := h
  have hlen := prd_len hrs
  have h100 := hrd.1
  have hK := KN.at_
  have LM : Lm (cxOf CX0 P w K mg base ["rows", "question", "weights", "sums", "index", "needs"] "words_by_weight" (defScope s_words_by_weight) f (.ref c) A outer s H E).nox T := ⟨⟨c, rfl, hcd⟩, BM⟩
  have HQ : (cxOf CX0 P w K mg base ["rows", "question", "weights", "sums", "index", "needs"] "words_by_weight" (defScope s_words_by_weight) f (.ref c) A outer s H E).nox.env.qual ++ "<lambda>" = TN.nm T := HN
  refine ⟨_, ((pss_cons (ps_set (i := 2) sc_words_by_weight.nd rfl (Or.inl rfl) (pe_callC c_weights_of hr rfl (pa_cons (pv 0) pa_nil)))
    (pss_cons (ps_set (i := 3) sc_words_by_weight.nd rfl (Or.inr rfl) (pe_disp (pps_cons pe_str pe_int (pps_cons pe_str pe_int (pps_cons pe_str pe_int pps_nil))) rfl rfl (by simp) (Nat.le_of_ble_eq_true rfl)))
    (pss_cons (ps_for PassesOwn.never rfl (pi_range1 rfl B.range_ (pa_cons (pe_callB call_len_seq rfl B.len_ PySem.boot_len (pa_cons (pv 0) pa_nil)) pa_nil)) (pg_name (i := 4) sc_words_by_weight.nd rfl (Or.inl rfl))
      (pss_cons (ps_set (i := 5) sc_words_by_weight.nd rfl (Or.inl rfl) (pe_ix ix_tup (pe_ix ix_list (pv 0) (pv 4) (fun _ _ => rfl)) pe_int (fun _ _ => rfl)))
      (pss_one (ps_if (pt_cmpR (op_qin (hu2_of hr)) (pv 1) (pv 5) (by with_unfolding_all rfl))
        (pss_one (ps_dput (hu_of hr) (pv 3) (pe_qget (hu2_of hr) (pv 5) (pv 1) (fun _ _ => rfl)) (pe_op op_add (pe_dget (hu_of hr) (pv 3) (pe_qget (hu2_of hr) (pv 5) (pv 1) (fun _ _ => rfl)) (fun _ _ => rfl)) (pe_ix ix_list (pv 2) (pv 4) (fun _ _ => rfl))) rfl)) pss_nil))))
    (pss_one (ps_ret (pe_sortedT (k := 0) (hs := []) rfl (hr.mono (by decide)) rfl B.sorted_ (pe_glob (v := .ref kk) rfl hK rfl) LM HQ (cloLS_of (x := "word") (defScope s_words_by_weight).names ["rows", "question", "weights", "sums", "index", "needs"] rfl rfl (by decide +kernel)) (fun cl A' L' f' cv' s₀ H₀ hr => (pe_dget (hu_of hr) (pv 4) (pv 0) (fun _ _ => rfl)))))))))), ?_⟩
  refine ⟨_, rfl, l, ys, rs, rfl, hl, hrs, hrd, hne, fun lw ws H1 g1 ew hwl => ?_⟩
  intro ds hds
  refine ⟨upd_same, [(.inr "number", .int 0), (.inr "text", .int 0), (.inr "pair", .int 0)], rfl, by decide, ?_⟩
  have nds : H ds = none := g1.free hds
  have g2 : Same H1 (upd (upd H1 ds (.dK [])) ds (.dK (mergeK [] [(.inr "number", .int 0), (.inr "text", .int 0), (.inr "pair", .int 0)]))) := (same_new hds _).upd hds _ (notf upd_same)
  have gA := g1.trans g2
  have em : mergeK [] [(.inr "number", .int 0), (.inr "text", .int 0), (.inr "pair", .int 0)] = sums3 0 0 0 := rfl
  refine ⟨_, rfl, l, _, rfl, .inl (SqL.of (gA _ _ hl)), _, rfl, by omega, by omega, ?_⟩
  rw [Int.toNat_natCast]
  refine for_n itn_r (fun i σ' H' => ∃ o4 o5 a b c, σ' = [some (.ref l), some vq, some (.ref lw), some (.ref ds), o4, o5] ∧ Same H1 H' ∧ H' ds = some (.dK (sums3 a b c))) ⟨_, _, 0, 0, 0, rfl, g2, upd_same⟩ (fun _ _ _ _ _ => True.intro) (fun i x σ' H' hi hx z => ?_) (fun σ' H' z => ?_)
  · obtain ⟨o4, o5, a, b, c, rfl, g, eds⟩ := z
    subst hx
    have hy : ys[i]? = some ys[i] := List.getElem?_eq_getElem hi
    generalize ys[i] = yr at hy
    obtain ⟨r, hr1, rwx⟩ := prd_get hrs hy
    have gH := g1.trans g
    obtain ⟨p, nd, lq, qs, rfl, h1, h2, h3, h4⟩ := rwx.mono gH
    obtain ⟨d, rfl, qd⟩ := h2
    obtain ⟨wn, hwn⟩ : ∃ n, atI (ws.map V.int) (0 + (i : Int)) = some (.int n) := int_at (by omega) (by omega)
    have hix : atI ys (0 + (i : Int)) = some (.ref p) := by rw [Int.zero_add]; exact atI_nat hy
    refine ⟨_, rfl, _, rfl, l, ys, _, _, rfl, rfl, SqL.of (gH _ _ hl), hix, p, _, _, _, rfl, rfl, SqT.of h1, rfl, ?_⟩
    refine ⟨_, rfl, _, rfl, d, _, qq, rfl, qd, hq.mono gH, _, rfl, ?_⟩
    rw [nv_some, Bool.false_xor]
    refine iteB (fun hb => ?_) (fun hb => ⟨_, _, a, b, c, rfl, g, eds⟩)
    obtain ⟨at0, ha⟩ := look_some (of_decide_eq_true hb)
    obtain ⟨_, k, en, _⟩ := (hrd.2 r (List.mem_of_getElem? hr1)).1.2.2 _ (look_mem ha)
    have ek : at0 = k.at := (Prod.mk.inj en).2
    subst ek
    have hv : valV (nv r.ns) qq = some (V.str k.word) := by rw [nv_val, ha]; rfl
    obtain ⟨a', b', c', e3⟩ := sums3_put a b c k (pick3 a b c k + wn)
    refine ⟨_, rfl, _, rfl, _, rfl, d, _, qq, _, rfl, qd, hq.mono gH, hv, ds, _, rfl, by rw [← sums3_val a b c k]; exact DGet.k (k := .inr k.word) eds, ?_⟩
    refine ⟨_, rfl, _, rfl, lw, _, _, .int wn, rfl, rfl, SqL.of (g _ _ ew), hwn, _, _, rfl, rfl, _, rfl, _, rfl, _, rfl, d, _, qq, _, rfl, qd, hq.mono gH, hv, ds, _, rfl, DPut.k (k := .inr k.word) eds lenOk3, ?_⟩
    exact ⟨_, _, a', b', c', rfl, g.upd hds _ (notf eds), by rw [upd_same, e3]⟩
  · obtain ⟨o4, o5, a, b, c, rfl, g, eds⟩ := z
    refine ⟨kindsV, [a, b, c], ⟨kk, rfl, KN.sq H'⟩, (g1.trans g).tab T tab, rfl, by decide, fun i y kz H2 hy hkz g2' => ?_, fun lf ys' H2 so g2' hlf => ?_⟩
    · have key : ∃ k : Kd, y = .str k.word ∧ kz = pick3 a b c k := by
        match i, hy, hkz with
        | 0, hy, hkz => exact ⟨.n, (Option.some.inj hy).symm, (Option.some.inj hkz).symm⟩
        | 1, hy, hkz => exact ⟨.t, (Option.some.inj hy).symm, (Option.some.inj hkz).symm⟩
        | 2, hy, hkz => exact ⟨.p, (Option.some.inj hy).symm, (Option.some.inj hkz).symm⟩
        | _ + 3, hy, hkz => cases hy
      obtain ⟨k, rfl, rfl⟩ := key
      exact ⟨_, rfl, _, rfl, ds, _, rfl, by rw [← sums3_val a b c k]; exact DGet.k (k := .inr k.word) (g2' _ _ eds), rfl, Same.refl _⟩
    · obtain ⟨pz, hp, rfl, _⟩ := so
      have hp2 := hp.map Prod.snd
      have e2 : ([a, b, c].zip kindsV).map Prod.snd = [Kd.n, .t, .p].map fun k => V.str k.word := rfl
      rw [e2] at hp2
      obtain ⟨ks, ek, hks⟩ := perm_map_inv hp2 rfl
      exact q lf ks _ ((g1.trans g).trans (g2'.trans (same_new hlf _))) (by rw [upd_same, ek]) hks
end
end ST
set_option Elab.async false
set_option linter.all false
set_option maxRecDepth 100000
set_option maxHeartbeats 4000000
namespace ST
variable [TN]
open PySem L2
theorem nodup_sub_len {α : Type} [DecidableEq α] : ∀ {l m : List α}, l.Nodup → (∀ x ∈ l, x ∈ m) → l.length ≤ m.length
  | [], _, _, _ => Nat.zero_le _
  | x :: t, m, hn, hs => by
    have hx := hs x List.mem_cons_self
    have hnx := List.nodup_cons.mp hn
    have ih := nodup_sub_len (l := t) (m := m.erase x) hnx.2 fun y hy => (List.mem_erase_of_ne (fun z => by subst z; exact hnx.1 hy)).mpr (hs y (List.mem_cons_of_mem _ hy))
    rw [List.length_erase_of_mem hx] at ih
    have := List.length_pos_of_mem hx
    rw [List.length_cons]
    omega
theorem filterMap_len {α β : Type} (f : α → Option β) : ∀ l : List α, (l.filterMap f).length ≤ l.length
  | [] => Nat.le_refl _
  | x :: t => by
    rw [List.filterMap_cons]
    have := filterMap_len f t
    cases f x with
    | none => exact Nat.le_succ_of_le this
    | some y => exact Nat.succ_le_succ this
theorem Few.less {ns : Needs} (h : Few ns) (q : Qn) : Few (less ns q) := by
  refine ⟨Nat.le_trans less_len h.1, nd_less h.2.1, fun n hn => h.2.2 n (mem_less.mp hn).1⟩
theorem RowOk.qlen {T : Needs} {r : Rw} (h : RowOk T r) : r.qs.length ≤ r.ns.length := by
  rw [← nkeys_len]
  exact nodup_sub_len h.qnd fun q hq => ((h.qs q).mp hq).1
theorem Rds.after {T : Needs} {rs : List Rw} {q : Qn} {a : At} (h : Rds rs) (R : Road T (rowsAfter rs q a)) : Rds (rowsAfter rs q a) := by
  refine ⟨Nat.le_trans (upTo_sub _).length_le (Nat.le_trans (filterMap_len _ _) h.1), fun r' hr' => ?_⟩
  obtain ⟨r, hr, hk⟩ := mem_after hr'
  have few : Few r'.ns := by
    rcases keep1_cases hk with ⟨_, rfl⟩ | ⟨_, rfl⟩
    · exact (h.2 r' hr).1
    · exact (h.2 r hr).1.less q
  exact ⟨few, Nat.le_trans (R.ok r' hr').qlen (Nat.le_trans few.1 (by decide))⟩
noncomputable def Has (kvs : List (Key × V)) (n : Nat) : Prop := (valV kvs (.inl (n : Int))).isSome = true
structure NumsOf (rs : List Rw) (kvs : List (Key × V)) : Prop where
  nd : (kvs.map (·.1)).Nodup
  num : ∀ kv ∈ kvs, ∃ r ∈ rs, kv.1 = .inl (r.num : Int)
theorem NumsOf.len {rs : List Rw} {kvs : List (Key × V)} (h : NumsOf rs kvs) : kvs.length ≤ rs.length := by
  have z := nodup_sub_len (l := kvs.map (·.1)) (m := rs.map fun r => (Sum.inl (r.num : Int) : Key)) h.nd fun k hk => by
    obtain ⟨kv, hkv, rfl⟩ := List.mem_map.mp hk
    obtain ⟨r, hr, e⟩ := h.num kv hkv
    exact List.mem_map.mpr ⟨r, hr, e.symm⟩
  rw [List.length_map, List.length_map] at z
  exact z
theorem putK_nd {kvs : List (Key × V)} (h : (kvs.map (·.1)).Nodup) (k : Key) (v : V) : ((putK kvs k v).map (·.1)).Nodup := by
  cases e : valV kvs k with
  | none =>
    rw [putK_new v e, List.map_append]
    exact nd_snoc h (valV_not e)
  | some x =>
    unfold putK
    rw [valV_any, e, if_pos (show (some x).isSome = true from rfl), List.map_map]
    rw [show ((fun x : Key × V => x.1) ∘ fun kv => if kv.1 = k then (kv.1, v) else kv) = fun x => x.1 from funext fun x => by show (if x.1 = k then (x.1, v) else x).1 = x.1; split <;> rfl]
    exact h
theorem NumsOf.put {rs : List Rw} {kvs : List (Key × V)} (h : NumsOf rs kvs) {k : Key} {v : V} (hk : ∃ r ∈ rs, k = .inl (r.num : Int)) : NumsOf rs (putK kvs k v) :=
  ⟨putK_nd h.nd k v, fun kv m => by
    rcases putK_mem m with rfl | z
    · exact hk
    · exact h.num kv z⟩
theorem NumsOf.merge {rs : List Rw} : ∀ {more kvs : List (Key × V)}, NumsOf rs kvs → (∀ kv ∈ more, ∃ r ∈ rs, kv.1 = .inl (r.num : Int)) → NumsOf rs (mergeK kvs more)
  | [], _, h, _ => h
  | x :: t, kvs, h, hm => NumsOf.merge (more := t) (h.put (hm x List.mem_cons_self)) fun kv m => hm kv (List.mem_cons_of_mem _ m)
theorem merge_left : ∀ {more kvs : List (Key × V)} {k : Key}, (valV kvs k).isSome = true → (valV (mergeK kvs more) k).isSome = true
  | [], _, _, h => h
  | x :: t, kvs, k, h => merge_left (more := t) (by rw [valV_put]; split; rfl; exact h)
theorem merge_right : ∀ {more kvs : List (Key × V)} {k : Key}, (valV more k).isSome = true → (valV (mergeK kvs more) k).isSome = true
  | [], _, _, h => by cases h
  | x :: t, kvs, k, h => by
    by_cases e : x.1 = k
    · exact merge_left (more := t) (by rw [valV_put, if_pos e.symm]; rfl)
    · rw [valV_neg e] at h
      exact merge_right (more := t) h
theorem NumsOf.after {rs : List Rw} {q : Qn} {a : At} {kvs : List (Key × V)} (h : NumsOf (rowsAfter rs q a) kvs) : NumsOf rs kvs :=
  ⟨h.nd, fun kv m => by
    obtain ⟨r', hr', e⟩ := h.num kv m
    obtain ⟨r, hr, hk⟩ := mem_after hr'
    exact ⟨r, hr, by rw [e, keep1_num hk]⟩⟩
section
variable (P : Program) (w : World)
noncomputable def SRes (T : Needs) (rs : List Rw) (H H' : Hp) (r : V) : Prop := ∃ t, r = .ref t ∧ ((∃ d1 x N, H' t = some (.tup [.ref d1, x]) ∧ H d1 = none ∧ QD P w H' d1 (nv N) ∧ Lets T rs N) ∨
  (∃ d2 kvs, H' t = some (.tup [.non, .ref d2]) ∧ H d2 = none ∧ H' d2 = some (.dK kvs) ∧ NumsOf rs kvs ∧ Blocks T rs (Has kvs)))
noncomputable def spSearch (T2 T3 : Addr) (n : Nat) : Sp := fun vs H Q _ => ∃ (l : Addr) (ys : List V) (rs : List Rw) (T : Needs), vs = [.ref l] ∧ H l = some (.lst ys) ∧ Rws P w H ys rs ∧ Rds rs ∧ Road T rs ∧ Kinds rs ∧ tot rs < n ∧ TabQ H T2 (TN.nm T2) ∧ TabQ H T3 (TN.nm T3) ∧
  ∀ r H', Same H H' → SRes P w T rs H H' r → Q r H'
end
theorem keys_tot : ∀ rs : List Rw, (rs.flatMap fun r => nkeys r.ns).length = tot rs
  | [] => rfl
  | r :: t => by rw [List.flatMap_cons, List.length_append, keys_tot t, tot_cons, nkeys_len]
theorem lets_len {T N : Needs} {rs : List Rw} (L : Lets T rs N) : N.length ≤ tot rs := by
  rw [← nkeys_len, ← keys_tot]
  refine nodup_sub_len L.nd fun q hq => ?_
  obtain ⟨r, hr, hk⟩ := L.src q hq
  exact List.mem_flatMap.mpr ⟨r, hr, hk⟩
seal L2.PE L2.PA L2.PS L2.PSs L2.PT L2.PW L2.PG L2.PGs L2.PI
section
variable {P : Program} {w : World} {K : PySem.W.Frag} {mg : Str → Option Value} {base : Heap}
theorem sc_search_past : FnScope ["rows", "last", "question", "in_the_way", "word", "found"] ["rows"] (defScope s_search_past) := ⟨rfl, rfl, rfl, by decide +kernel, rfl, by decide +kernel, by decide +kernel⟩
theorem ok_search1 {T2 T3 : Addr} {n : Nat} (hn : n ≤ 1000) (FN : FunAt K mg "search_past" s_search_past ["rows"]) (B : Blt mg) (c_weightiest_question : Callee P w K mg base 4 "weightiest_question" ["rows"] (spHeaviest P w T2)) (c_words_by_weight : Callee P w K mg base 4 "words_by_weight" ["rows", "question"] (spWords P w T3)) (c_rows_after : Callee P w K mg base 3 "rows_after" ["rows", "question", "answer"] (spRowsAfter P w))
    (c_search_past : Callee P w K mg base (n + 4) "search_past" ["rows"] (spSearch P w T2 T3 n)) : Callee P w K mg base (n + 1 + 4) "search_past" ["rows"] (spSearch P w T2 T3 (n + 1)) := by
  refine FN.ok (k := n + 4) sc_search_past (fun vs H Q E h => ?_) (fun f cdv A outer s H vs Q E hr h => ?_)
  · obtain ⟨l, ys, rs, T, rfl, _⟩ := h
    rfl
  obtain ⟨l, ys, rs, T, rfl, hl, hrs, hrd, R, KD, htot, tab2, tab3, q⟩ := h
  have hlen := prd_len hrs
  have h100 := hrd.1
  refine ⟨_, ((pss_cons (ps_if (pt_not (pt_truth (pv 0) (fun _ => rfl)))
      (pss_one (ps_ret (pe_tup (pa_cons pe_qnew (pa_cons pe_dnewK pa_nil))))) pss_nil)
    (pss_cons (ps_set (i := 1) sc_search_past.nd rfl (Or.inl rfl) (pe_ix ix_list (pv 0) (pe_op op_sub (pe_callB call_len_seq rfl B.len_ PySem.boot_len (pa_cons (pv 0) pa_nil)) pe_int) (fun _ _ => rfl)))
    (pss_cons (ps_if (pt_not (pt_truthQ (pe_ix ix_tup (pv 1) pe_int (fun _ _ => rfl)) (fun _ => rfl)))
      (pss_one (ps_ret (pe_tup (pa_cons pe_non (pa_cons (pe_disp (pps_cons (pe_ix ix_tup (pv 1) pe_int (fun _ _ => rfl)) pe_bl pps_nil) rfl rfl (by simp) (Nat.le_of_ble_eq_true rfl)) pa_nil))))) pss_nil)
    (pss_cons (ps_set (i := 2) sc_search_past.nd rfl (Or.inr rfl) (pe_callC c_weightiest_question hr rfl (pa_cons (pv 0) pa_nil)))
    (pss_cons (ps_set (i := 3) sc_search_past.nd rfl (Or.inl rfl) pe_dnewK)
    (pss_cons (ps_for PassesOwn.never rfl (pi_list (pe_callC c_words_by_weight hr rfl (pa_cons (pv 0) (pa_cons (pv 2) pa_nil)))) (pg_name (i := 4) sc_search_past.nd rfl (Or.inl rfl))
      (pss_cons (ps_set (i := 5) sc_search_past.nd rfl (Or.inr rfl) (pe_callC c_search_past hr rfl (pa_cons (pe_callC c_rows_after hr rfl (pa_cons (pv 0) (pa_cons (pv 2) (pa_cons (pv 4) pa_nil)))) pa_nil)))
      (pss_cons (ps_if (pt_cmp (pc_notN (pe_ix ix_tup (pv 5) pe_int (fun _ _ => rfl))))
        (pss_cons (ps_asg (pv 4) (pg_sub (pe_ix ix_tup (pv 5) pe_int (fun _ _ => rfl)) (pv 2) (set_q (hu2_of hr))))
        (pss_one (ps_ret (pv 5)))) pss_nil)
      (pss_cons (ps_if (pt_not (pt_val (pe_callB (call_anyB rfl) rfl B.any_ (by rfl) (pa_cons (pe_lcompIS rfl (pi_list (pv 0)) (cloS_of (defScope s_search_past).names ["rows", "last", "question", "in_the_way", "word", "found"] rfl rfl (by decide +kernel) rfl) (fun cl C s₀ H₀ ex => pifs_one (pt_cmp (pc_din (hu_of hr) (pe_ix (ix_tupC (K := K) rfl) (pv 0) pe_int (fun _ _ => rfl)) (pe_ix (ix_tupC (K := K) rfl) (pv 6) pe_int (fun _ _ => rfl))))) (fun cl C s₀ H₀ ex => (pe_cmpR (op_qinC (P := P) (w := w) rfl rfl (hu2_of hr)) (pv 3) (pe_ix (ix_tupC (K := K) rfl) (pv 0) pe_int (fun _ _ => rfl)) (by with_unfolding_all rfl)))) pa_nil))))
        (pss_one (ps_ret (pv 5))) pss_nil)
      (pss_one (ps_expr (pe_bmD PySem.F.slot_dict_update PySem.F.type_dict_update mt_updateK (pv 3) (pa_cons (pe_ix (ix_tupC (K := K) rfl) (pv 5) pe_int (fun _ _ => rfl)) pa_nil))))))))
    (pss_one (ps_ret (pe_tup (pa_cons pe_non (pa_cons (pv 3) pa_nil)))))))))))), ?_⟩
  refine ⟨_, rfl, !ys.isEmpty, .inl ⟨_, SqL.of hl, rfl⟩, ?_⟩
  cases rs with
  | nil =>
    cases hrs
    refine iteT' rfl ?_
    intro d1 ep1 hd1
    intro d2 hd2
    refine ⟨lenOk rfl, fun t ht => ?_⟩
    have g1 := same_new hd1 (dQ P w d1 ep1 [])
    have g2 := same_new hd2 (.dK [])
    have g3 := same_new ht (.tup [V.ref d1, V.ref d2])
    exact q _ _ (g1.trans (g2.trans g3)) ⟨t, rfl, .inl ⟨d1, .ref d2, [], upd_same, hd1, ⟨ep1, [], (g2.trans g3) _ _ upd_same, rfl, fun x hx => by simp at hx⟩, lets_nil R.cl⟩⟩
  | cons r00 rest =>
    generalize hrr : r00 :: rest = rs at *
    have hne : rs ≠ [] := by rw [← hrr]; simp
    have hpos : 0 < ys.length := by rw [hlen]; exact List.length_pos_iff.mpr hne
    have hye : ys.isEmpty = false := by cases ys with
      | nil => simp at hpos
      | cons _ _ => rfl
    refine iteF' (by rw [hye]; rfl) ?_
    -- the last row
    have hlast : rs[ys.length - 1]? = some (rs.getLast hne) := by rw [hlen, List.getLast_eq_getElem]; exact List.getElem?_eq_getElem _
    obtain ⟨vl, hvl, rwl⟩ := prd_at hrs hlast
    have hix : atI ys (((ys.length : Nat) : Int) - 1) = some vl := by
      rw [show ((ys.length : Nat) : Int) - 1 = ((ys.length - 1 : Nat) : Int) by omega]; exact atI_nat hvl
    refine ⟨_, rfl, _, rfl, l, ys, rfl, .inl (SqL.of hl), _, _, rfl, rfl, l, ys, _, vl, rfl, rfl, SqL.of hl, hix, ?_⟩
    obtain ⟨pl, ndl, lql, qsl, rfl, hl1, ⟨dl, rfl, qdl⟩, hl3, hl4⟩ := rwl
    refine ⟨_, rfl, pl, _, _, _, rfl, rfl, SqT.of hl1, rfl, dl, _, rfl, qdl, ?_⟩
    rw [nv_empty]
    by_cases hsett : (rs.getLast hne).ns = []
    · rw [decide_eq_true hsett]
      refine iteT' rfl ?_
      intro dd hdd
      have g1 := same_new hdd (.dK [])
      have g1' : Same H (upd (upd H dd (.dK [])) dd (.dK (mergeK [] [(.inl ((rs.getLast hne).num : Int), V.bl true)]))) := g1.upd hdd _ (notf upd_same)
      refine ⟨_, rfl, pl, _, _, _, rfl, rfl, SqT.of (g1 _ _ hl1), rfl, upd_same, [(.inl ((rs.getLast hne).num : Int), .bl true)], rfl, Nat.le_of_ble_eq_true rfl, lenOk rfl, fun t ht => ?_⟩
      have g3 := same_new ht (.tup [V.non, V.ref dd])
      have hm := List.getLast_mem hne
      refine q _ _ (g1'.trans g3) ⟨t, rfl, .inr ⟨dd, _, upd_same, hdd, g3 _ _ upd_same, ⟨?_, fun kv hkv => ?_⟩, fun x hx => ⟨_, hm, ?_, ?_⟩⟩⟩
      · show List.Nodup [_]
        simp
      · have e : kv = (.inl ((rs.getLast hne).num : Int), V.bl true) := List.mem_singleton.mp hkv
        exact ⟨_, hm, by rw [e]⟩
      · show (valV [(Sum.inl ((rs.getLast hne).num : Int), V.bl true)] _).isSome = true
        rw [valV_pos rfl]; rfl
      · rw [hsett]; exact fits_nil x
    · rw [decide_eq_false hsett]
      refine iteF' rfl ?_
      have hm := List.getLast_mem hne
      refine ⟨_, rfl, l, ys, rs, rfl, hl, hrs, hrd, ⟨_, hm, (R.ok _ hm).ask hsett⟩, tab2, fun vq q0 H1 g1 kq ⟨r1, hr1, hq1⟩ => ?_⟩
      have hk1 := ((R.ok r1 hr1).qs q0).mp hq1
      obtain ⟨p, rfl⟩ := KD r1 hr1 q0 hk1.1
      obtain ⟨b, rfl⟩ := qis_ref kq
      have hp3 : p.length ≤ 3 := by
        obtain ⟨a, m⟩ := mem_nkeys.mp hk1.1
        obtain ⟨p', k', e, h3⟩ := (hrd.2 r1 hr1).1.2.2 _ m
        have : p = p' := by injection (Prod.mk.inj e).1
        rw [this]; exact h3
      intro dw hdw
      have g2 := same_new hdw (.dK [])
      have g12 := g1.trans g2
      have ndw : H dw = none := g1.free hdw
      refine ⟨_, rfl, _, rfl, l, ys, rs, .ref b, .k p, rfl, g12 _ _ hl, Rws.mono g12 hrs, hrd, hne, kq.mono g2, g12.tab _ tab3, fun lw ks H3 g3 elw perm => ?_⟩
      have g13 := g2.trans g3
      have gH3 := g1.trans g13
      refine ⟨lw, rfl, ⟨_, SqL.of elw⟩, ?_⟩
      have hkl : ks.length = 3 := perm.length_eq
      refine for_n (itn_l (xs := ks.map fun k => V.str k.word)) (fun i σ' H' => ∃ o4 o5 kvs, σ' = [some (.ref l), some (.ref pl), some (.ref b), some (.ref dw), o4, o5] ∧ Same H1 H' ∧ H' dw = some (.dK kvs) ∧ H' lw = some (.lst (ks.map fun k => V.str k.word)) ∧ NumsOf rs kvs ∧ ∀ k ∈ ks.take i, Blocks ((Qn.k p, k.at) :: T) (rowsAfter rs (.k p) k.at) (Has kvs))
        ⟨_, _, [], rfl, g13, g3 _ _ upd_same, elw, ⟨List.nodup_nil, fun kv h => by simp at h⟩, fun k h => by simp at h⟩ (fun i σ' H' _ z => by obtain ⟨_, _, _, _, _, _, z, _⟩ := z; exact SqL.of z) (fun i x σ' H' hi hx z => ?_) (fun σ' H' z => ?_)
      · obtain ⟨o4, o5, kvs, rfl, g, edw, elw', nums, hbl⟩ := z
        rw [List.getElem?_map] at hx
        obtain ⟨k, hk, rfl⟩ := Option.map_eq_some_iff.mp hx
        have et : ks.take (i + 1) = ks.take i ++ [k] := by rw [List.take_add_one, hk]; rfl
        have gH := g1.trans g
        refine ⟨_, rfl, _, rfl, _, rfl, l, ys, rs, .ref b, k, p, rfl, gH _ _ hl, Rws.mono gH hrs, hrd, kq.mono g, by omega, fun r hr hq => R.askable hr1 hq1 hr hq, fun l4 ys4 H4 g4 hl4 e4 r4 => ?_⟩
        have C := R.closed (w := k) hr1 hq1
        have R' := R.after C hr1 hq1
        have gH4 := gH.trans g4
        refine ⟨l4, ys4, _, _, rfl, e4, r4, hrd.after R', R', KD.after, by have := tot_after (q := Qn.k p) (a := k.at) ⟨r1, hr1, hk1.1⟩; omega, gH4.tab _ tab2, gH4.tab _ tab3, fun r H5 g5 ⟨t, er, res⟩ => ?_⟩
        subst er
        have gH5 := gH4.trans g5
        have g45 := g4.trans g5
        have kq5 := (kq.mono g).mono g45
        rcases res with ⟨d1, x, N, ht, hd1, qd, L⟩ | ⟨d2, kvs2, ht, hd2, ed2, nums2, bl⟩
        · refine ⟨_, rfl, t, _, _, _, rfl, rfl, SqT.of ht, rfl, _, rfl, iteT' rfl ?_⟩
          obtain ⟨ep, xs, ex, hx, hk⟩ := qd
          have hN := lets_len L
          have htt := tot_after (q := Qn.k p) (a := k.at) ⟨r1, hr1, hk1.1⟩
          have hqN : Qn.k p ∉ nkeys N := fun m => L.fr _ m List.mem_cons_self
          refine ⟨_, rfl, _, rfl, t, _, _, _, rfl, rfl, SqT.of ht, rfl, _, rfl, d1, b, ep, xs, .k p, rfl, rfl, ex, hk, kq5, lt_lineB (by rw [(nv_prj hx).1]; omega), fun ep' => ⟨_, rfl, ?_⟩⟩
          have nt : t ≠ d1 := fun z => by rw [z, ex] at ht; exact nomatch (show some (HO.ext _) = some (HO.tup _) from ht)
          have nd1 : H d1 = none := gH4.free hd1
          refine q _ _ (gH5.upd nd1 _ (notf ex)) ⟨t, rfl, .inl ⟨d1, x, N ++ [(Qn.k p, k.at)], by rw [upd_ne nt]; exact ht, nd1, qd_put (a := k.at) (ep' := ep') ex hx hk kq5 hqN, Lets.step R L hr1 hq1⟩⟩
        · refine ⟨_, rfl, t, _, _, _, rfl, rfl, SqT.of ht, rfl, _, rfl, iteF' rfl ?_⟩
          refine ⟨_, rfl, l, rfl, ⟨ys, SqL.of (gH5 _ _ hl)⟩, comp_n (itn_l (xs := ys)) (fun j zs H6 => Same H5 H6 ∧ ∃ bs : List Bool, zs = bs.map V.bl ∧ (bs.any id = false → ∀ r ∈ rs.take j, Has kvs2 r.num → Qn.k p ∉ nkeys r.ns)) (le_line (by omega)) ⟨Same.refl _, [], rfl, fun _ r h => by simp at h⟩ (fun j zs H6 _ z => SqL.of (z.1 _ _ (gH5 _ _ hl))) (fun j x zs H6 NB NY hj hy z k0 k1 => ?_) (fun zs H6 z hz lz hlz => ?_)⟩
          · obtain ⟨r, hrj, rwx⟩ := prd_get hrs hy
            obtain ⟨g6, bs, rfl, hbs⟩ := z
            have gH6 := gH5.trans g6
            obtain ⟨pr, nd, lq, qs, rfl, h1, ⟨dr, rfl, qdr⟩, h3, h4⟩ := rwx.mono gH6
            have ej : rs.take (j + 1) = rs.take j ++ [r] := by rw [List.take_add_one, hrj]; rfl
            refine ⟨_, rfl, pr, _, _, _, rfl, rfl, SqT.of h1, rfl, _, rfl, t, _, _, _, rfl, rfl, SqT.of (g6 _ _ ht), rfl, d2, _, rfl, DGet.k (k := .inl (r.num : Int)) (g6 _ _ ed2), _, rfl, iteB (fun hb => ?_) (fun hb => k0 _ ⟨g6, bs, rfl, fun hany r' hr' hh => ?_⟩)⟩
            · refine ⟨_, rfl, _, rfl, pr, _, _, _, rfl, rfl, SqT.of h1, rfl, dr, _, .k p, rfl, qdr, kq5.mono g6, ?_⟩
              rw [nv_some, Bool.false_xor]
              refine k1 _ _ ⟨g6, bs ++ [decide (Qn.k p ∈ nkeys r.ns)], by simp, fun hany r' hr' hh => ?_⟩
              rw [List.any_append, Bool.or_eq_false_iff] at hany
              rw [ej] at hr'
              rcases List.mem_append.mp hr' with z | z
              · exact hbs hany.1 r' z hh
              · have e : r' = r := List.mem_singleton.mp z
                subst e
                have h2 := hany.2
                simp at h2
                exact h2
            · rw [ej] at hr'
              rcases List.mem_append.mp hr' with z | z
              · exact hbs hany r' z hh
              · have e : r' = r := List.mem_singleton.mp z
                subst e
                have hh' : (valV kvs2 (.inl (r'.num : Int))).isSome = true := hh
                rw [hb] at hh'
                cases hh'
          obtain ⟨g6, bs, rfl, hbs⟩ := z
          rw [List.take_of_length_le (by omega)] at hbs
          have g7 := same_new hlz (.lst (bs.map V.bl))
          have g57 := g6.trans g7
          refine ⟨lz, bs, rfl, SqL.of upd_same, _, rfl, ?_⟩
          cases hany : bs.any id with
          | false =>
            refine iteT' rfl ⟨_, rfl, q _ _ (gH5.trans g57) ⟨t, rfl, .inr ⟨d2, kvs2, g57 _ _ ht, gH4.free hd2, g57 _ _ ed2, nums2.after, Blocks.short R hr1 hq1 bl (hbs hany)⟩⟩⟩
          | true =>
            refine iteF' rfl ?_
            have edw7 := g57 _ _ (g45 _ _ edw)
            have nw : dw ≠ d2 := fun z => by rw [← z, g4 _ _ edw] at hd2; cases hd2
            have l1 := nums.len
            have l2 := nums2.after.len
            refine ⟨_, rfl, ⟨dw, rfl, .inr (.inl ⟨kvs, edw7⟩)⟩, _, rfl, t, _, _, _, rfl, rfl, SqT.of (g57 _ _ ht), rfl, dw, d2, kvs, kvs2, rfl, rfl, edw7, g57 _ _ ed2, nw, le_line (by omega), ?_⟩
            have nlw : lw ≠ dw := fun z => by rw [z, edw] at elw'; cases elw'
            refine ⟨_, _, mergeK kvs kvs2, rfl, ((g.trans g45).trans g57).upd hdw _ (notf edw7), upd_same, by rw [upd_ne nlw]; exact g57 _ _ (g45 _ _ elw'), nums.merge nums2.after.num, fun k' hk' => ?_⟩
            rw [et] at hk'
            rcases List.mem_append.mp hk' with z | z
            · exact (hbl k' z).mono fun n h => merge_left h
            · have e : k' = k := List.mem_singleton.mp z
              subst e
              exact bl.mono fun n h => merge_right h
      · obtain ⟨o4, o5, kvs, rfl, g, edw, elw', nums, hbl⟩ := z
        rw [List.length_map, List.take_length] at hbl
        refine ⟨_, rfl, lenOk rfl, fun t ht => ?_⟩
        have g9 := same_new ht (.tup [V.non, V.ref dw])
        refine q _ _ ((g1.trans g).trans g9) ⟨t, rfl, .inr ⟨dw, kvs, upd_same, ndw, g9 _ _ edw, nums, Blocks.all R hr1 hq1 fun k => hbl k (perm.mem_iff.mpr (by cases k <;> simp))⟩⟩
theorem ok_search {T2 T3 : Addr} (FN : FunAt K mg "search_past" s_search_past ["rows"]) (B : Blt mg) (c_weightiest_question : Callee P w K mg base 4 "weightiest_question" ["rows"] (spHeaviest P w T2)) (c_words_by_weight : Callee P w K mg base 4 "words_by_weight" ["rows", "question"] (spWords P w T3)) (c_rows_after : Callee P w K mg base 3 "rows_after" ["rows", "question", "answer"] (spRowsAfter P w)) :
    ∀ n : Nat, n ≤ 1000 → Callee P w K mg base (n + 4) "search_past" ["rows"] (spSearch P w T2 T3 n)
  | 0, _ => (FN.none fun vs H Q E h => by obtain ⟨_, _, _, _, _, _, _, _, _, _, z, _⟩ := h; exact Nat.not_lt_zero _ z).mono (by decide)
  | n + 1, hn => ok_search1 (by omega) FN B c_weightiest_question c_words_by_weight c_rows_after (ok_search FN B c_weightiest_question c_words_by_weight c_rows_after n (by omega))
end
end ST
set_option Elab.async false
set_option linter.all false
set_option maxRecDepth 100000
set_option maxHeartbeats 4000000
namespace ST
variable [TN]
open PySem L2
theorem nil_or_snoc {α : Type} (xs : List α) : xs = [] ∨ ∃ l b, xs = l ++ [b] := by
  rcases List.eq_nil_or_concat xs with h | ⟨l, b, h⟩
  · exact .inl h
  · exact .inr ⟨l, b, by rw [h, List.concat_eq_append]⟩
theorem AllIs.snocMap {α : Type} {H : Hp} {vs : List V} {v : V} {f : α → D} {xs : List α} (h : AllIs H (vs ++ [v]) (xs.map f)) : ∃ xs' x, xs = xs' ++ [x] ∧ AllIs H vs (xs'.map f) ∧ Is H v (f x) := by
  obtain ⟨ds, d, e, a, i⟩ := h.snoc
  rcases nil_or_snoc xs with rfl | ⟨xs', x, rfl⟩
  · simp at e
  · rw [List.map_append] at e
    obtain ⟨e1, e2⟩ := List.append_inj' e rfl
    have e3 : f x = d := by simpa using e2
    subst e1 e3
    exact ⟨xs', x, rfl, a, i⟩
theorem vsz_app (xs ys : List Va) : vsz (xs ++ ys) = vsz xs + vsz ys := by
  induction xs with
  | nil => show vsz ys = 0 + vsz ys; omega
  | cons x r ih => show x.size + vsz (r ++ ys) = x.size + vsz r + vsz ys; omega
theorem Va.size_pos (x : Va) : 1 ≤ x.size := by
  cases x with
  | pr a b => exact Nat.succ_le_succ (Nat.zero_le _)
  | _ => exact Nat.le_refl _
theorem len_vsz (xs : List Va) : xs.length ≤ vsz xs := by
  induction xs with
  | nil => exact Nat.le_refl _
  | cons x r ih => have := x.size_pos; show r.length + 1 ≤ x.size + vsz r; omega
structure Vst (H₀ H : Hp) (l : Addr) (m : Nat) : Prop where
  ex : ∃ (us : List V) (xs : List Va), H l = some (.lst us) ∧ AllIs H₀ us (xs.map Va.d) ∧ vsz xs = m
  same : Same H₀ H
  new : H₀ l = none
  few : m ≤ 100000
seal L2.PE L2.PA L2.PS L2.PSs L2.PT L2.PW L2.PG L2.PGs L2.PI
section
variable {P : Program} {w : World} {K : PySem.W.Frag} {mg : Str → Option Value} {base : Heap}
theorem sc__law_is_value : FnScope ["_law_found", "_law_todo", "_law_one"] ["_law_found"] (defScope sIsValue) := ⟨rfl, rfl, rfl, by decide +kernel, rfl, by decide +kernel, by decide +kernel⟩
theorem ok_isV (FN : FunAt K mg "_law_is_value" sIsValue ["_law_found"]) (B : Blt mg) (c__law_whole : Callee P w K mg base 1 "_law_whole" ["_law_found"] spWhole) : Callee P w K mg base 2 "_law_is_value" ["_law_found"] spIsV := by
  refine FN.ok sc__law_is_value (fun vs H Q E h => ?_) (fun f cdv A outer s H vs Q E hr h => ?_)
  · obtain ⟨v, x, rfl, _⟩ := h
    rfl
  obtain ⟨v, x, rfl, hv, hx, q⟩ := h
  have hu := hr.units0
  refine ⟨_, ((pss_cons (ps_set (i := 1) sc__law_is_value.nd rfl (Or.inl rfl) (pe_lst (pa_cons (pv 0) pa_nil)))
    (pss_cons (ps_while PassesOwn.never (pt_cmpR (op_neNil hu) (pv 1) (pe_lst pa_nil) (nomark _))
      (pss_cons (ps_set (i := 2) sc__law_is_value.nd rfl (Or.inl rfl) (pe_bm0 F.plainAttrs_list F.slot_list_pop tyPop mt_pop (pv 1)))
      (pss_one (ps_if (pt_val (pe_callB call_inst rfl B.isinstance_ PyProof.Rows.boot_isinstance (pa_cons (pv 2) (pa_cons (pe_bltn (v := .ty "tuple") rfl B.tuple_ PyProof.Rows.boot_tuple rfl) pa_nil))))
        (pss_cons (ps_if (pt_cmpR op_ne (pe_callB call_len_seq rfl B.len_ PySem.boot_len (pa_cons (pv 2) pa_nil)) pe_int (nomark _))
          (pss_one (ps_ret pe_bl)) pss_nil)
        (pss_one (ps_expr (pe_bm F.plainAttrs_list F.slot_list_extend tyExt mt_ext (pv 1) (pa_cons (pv 2) pa_nil)))))
        (pss_one (ps_if (PW.pt (pw_and (pt_not (pt_val (pe_callB call_inst rfl B.isinstance_ PyProof.Rows.boot_isinstance (pa_cons (pv 2) (pa_cons (pe_bltn (v := .ty "str") rfl B.str_ PyProof.Rows.boot_str rfl) pa_nil))))) (pw_and1 (pt_not (pt_val (pe_callC c__law_whole hr rfl (pa_cons (pv 2) pa_nil)))))))
          (pss_one (ps_ret pe_bl)) pss_nil))))))
    (pss_one (ps_ret pe_bl))))), ?_⟩
  refine ⟨_, rfl, lenOk rfl, fun l hl => ?_⟩
  have g1 := same_new hl (.lst [v])
  refine ⟨fun m σ H' => ∃ o, σ = [some v, some (.ref l), o] ∧ Vst H H' l m, ⟨_, _, rfl, ⟨[v], [x], upd_same, .cons hv .nil, rfl⟩, g1, hl, by show x.size + 0 ≤ 100000; omega⟩, ?_⟩
  rintro m σ H0 ⟨o, rfl, hA⟩
  refine ⟨_, rfl, lenOk rfl, fun l0 hl0 => ?_⟩
  have g0 := same_new hl0 (.lst [])
  have en : upd H0 l0 (.lst []) l0 = some (.lst []) := upd_same
  obtain ⟨us0, xs0, e0, al, sz⟩ := hA.ex
  have e1 := g0 _ _ e0
  have sm := hA.same.trans g0
  have hfew := hA.few
  generalize upd H0 l0 (.lst []) = H1 at en e1 sm ⊢
  rcases nil_or_snoc us0 with rfl | ⟨us, u, rfl⟩
  · exact ⟨l, l0, _, rfl, rfl, SqL.of e1, SqL.of en, _, rfl, iteF' rfl (q H1 sm)⟩
  refine ⟨l, l0, _, rfl, rfl, SqL.of e1, SqL.of en, _, rfl, iteT' (by simp) ?_⟩
  obtain ⟨xs, y, rfl, al', iy⟩ := al.snocMap
  rw [vsz_app] at sz
  have sz' : vsz xs + y.size = m := by
    have : vsz [y] = y.size + 0 := rfl
    omega
  have hlen := al'.len
  rw [List.length_map] at hlen
  have hlv := len_vsz xs
  have hyp := y.size_pos
  refine ⟨fun σ' H' => ∃ m', m' < m ∧ ∃ o, σ' = [some v, some (.ref l), o] ∧ Vst H H' l m', fun σ' H' z => z, ?_⟩
  refine ⟨_, rfl, .inl ⟨rfl, _, SqL.of e1⟩, l, _, _, rfl, rfl, e1, last_of _ _, ?_⟩
  simp only [List.dropLast_concat]
  have f1 : upd H1 l (.lst us) l = some (.lst us) := upd_same
  have s2 : Same H (upd H1 l (.lst us)) := sm.upd hA.new _
  generalize upd H1 l (.lst us) = H2 at f1 s2 ⊢
  cases y with
  | int i =>
    cases is_int iy
    refine ⟨_, rfl, _, _, _, _, rfl, .int i, kit_int_tup K, _, rfl, iteF' rfl ?_⟩
    refine ⟨_, rfl, _, _, _, _, rfl, .int i, kit_int_str K, _, rfl, iteT' rfl ⟨_, rfl, i, rfl, _, rfl, iteF' rfl ?_⟩⟩
    exact ⟨vsz xs, by omega, _, rfl, ⟨us, xs, f1, al', rfl⟩, s2, hA.new, by omega⟩
  | str i =>
    cases is_str iy
    refine ⟨_, rfl, _, _, _, _, rfl, .str i, kit_str_tup K, _, rfl, iteF' rfl ?_⟩
    refine ⟨_, rfl, _, _, _, _, rfl, .str i, kit_same K "str", _, rfl, iteF' rfl (iteF' rfl ?_)⟩
    exact ⟨vsz xs, by omega, _, rfl, ⟨us, xs, f1, al', rfl⟩, s2, hA.new, by omega⟩
  | pr a b =>
    obtain ⟨p, u1, u2, rfl, ep, i1, i2⟩ := is_t2 iy
    have ep2 := s2 _ _ ep
    have hsz : (Va.pr a b).size = a.size + b.size + 1 := rfl
    refine ⟨_, rfl, _, _, _, _, rfl, .tup ep2, kit_same K "tuple", _, rfl, iteT' rfl ?_⟩
    refine ⟨_, rfl, p, _, rfl, .inr (SqT.of ep2), rfl, _, rfl, iteF' rfl ?_⟩
    refine ⟨_, rfl, .inl ⟨rfl, us, SqL.of f1⟩, _, rfl, .inr ⟨l, p, us, _, rfl, rfl, f1, ep2, few_line (by show us.length + 2 ≤ 100000; have := a.size_pos; have := b.size_pos; omega), ?_⟩⟩
    refine ⟨vsz (xs ++ [a, b]), ?_, _, rfl, ⟨us ++ [u1, u2], xs ++ [a, b], upd_same, ?_, rfl⟩, s2.upd hA.new _, hA.new, ?_⟩
    · rw [vsz_app]
      show vsz xs + (a.size + (b.size + 0)) < m
      omega
    · rw [List.map_append]
      exact al'.append (.cons i1 (.cons i2 .nil))
    · rw [vsz_app]
      show vsz xs + (a.size + (b.size + 0)) ≤ 100000
      omega
end
end ST
set_option Elab.async false
set_option linter.all false
set_option maxRecDepth 100000
set_option maxHeartbeats 4000000
namespace ST
variable [TN]
open PySem L2
noncomputable def Good (ss : List Sh) : Prop := ss.length ≤ 45 ∧ ∀ s ∈ ss, s.size ≤ 3 ∧ s.d.depth ≤ 2
noncomputable def spLaw (K : PySem.W.Frag) : Sp := fun vs H Q _ => ∃ (a : Addr) (ns : List Int), vs = [.ref a] ∧ SqL K H a (ns.map V.int) ∧ ns.length ≤ 63 ∧ ∀ H', Q (.bl true) H'
theorem map_erase {α β : Type} (f : α → β) : ∀ (l : List α) (k : Nat), (l.map f).eraseIdx k = (l.eraseIdx k).map f
  | [], _ => rfl
  | _ :: _, 0 => rfl
  | a :: r, k + 1 => by
    show f a :: (r.map f).eraseIdx k = f a :: (r.eraseIdx k).map f
    rw [map_erase f r k]
theorem AllIs.erase {H : Hp} {us : List V} {ds : List D} (h : AllIs H us ds) : ∀ k : Nat, AllIs H (us.eraseIdx k) (ds.eraseIdx k) := by
  induction h with
  | nil => intro k; exact .nil
  | cons i a ih =>
    intro k
    cases k with
    | zero => exact a
    | succ k => exact .cons i (ih k)
theorem D.mv_depth (far : Int) (word : Str) : ∀ d : D, (d.mv far word).depth = d.depth
  | .int _ => rfl
  | .str _ => rfl
  | .t1 a => by show (a.mv far word).depth + 1 = _; rw [D.mv_depth far word a]; rfl
  | .t2 a b => by show max (a.mv far word).depth (b.mv far word).depth + 1 = _; rw [D.mv_depth far word a, D.mv_depth far word b]; rfl
  | .t3 a b c => by show max (max (a.mv far word).depth (b.mv far word).depth) (c.mv far word).depth + 1 = _; rw [D.mv_depth far word a, D.mv_depth far word b, D.mv_depth far word c]; rfl
theorem D.wt_of_sh : ∀ s : Sh, s.d.wt ≤ 4 * s.size
  | .any => by decide
  | .kind k => by show 1 + 1 + 1 ≤ 4; decide
  | .si i => by show 1 + 1 + 1 ≤ 4; decide
  | .ss i => by show 1 + 1 + 1 ≤ 4; decide
  | .pair a b => by
    have h1 := D.wt_of_sh a
    have h2 := D.wt_of_sh b
    show 1 + a.d.wt + b.d.wt + 1 ≤ 4 * (a.size + b.size + 1)
    omega
theorem wts_le {c : Nat} : ∀ {ss : List Sh}, (∀ s ∈ ss, s.size ≤ c) → wts (ss.map Sh.d) ≤ 4 * c * ss.length
  | [], _ => Nat.zero_le _
  | s :: r, h => by
    have h1 := wts_le (c := c) (ss := r) fun k hk => h k (List.mem_cons_of_mem _ hk)
    have h2 := D.wt_of_sh s
    have h3 := h s List.mem_cons_self
    show s.d.wt + wts (r.map Sh.d) ≤ 4 * c * (r.length + 1)
    rw [Nat.mul_add, Nat.mul_one]
    omega
end ST
set_option Elab.async false
set_option linter.all false
set_option maxRecDepth 100000
set_option maxHeartbeats 4000000
namespace ST
variable [TN]
open PySem L2
seal L2.PE L2.PA L2.PS L2.PSs L2.PT L2.PW L2.PG L2.PGs L2.PI
section
variable {P : Program} {w : World} {K : PySem.W.Frag} {mg : Str → Option Value} {base : Heap} {f g : Addr} {fd gd : FuncData}
theorem scMoved : FnScope ["_law_thing", "_law_far", "_law_word"] ["_law_thing", "_law_far", "_law_word"] (defScope sMoved) := ⟨rfl, rfl, rfl, by decide +kernel, rfl, by decide +kernel, by decide +kernel⟩
noncomputable def scC : Scope := match defBody sMoved with
  | .If _ (.Return (some (.Call _ (.ListComp _ _ sc _ :: _) _ _)) _ :: _) _ _ :: _ => sc
  | _ => defScope sMoved
theorem tup_parts {H : Hp} {v : V} {d : D} (h : Is H v d) : (∃ i, v = .int i ∧ d = .int i) ∨ (∃ x, v = .str x ∧ d = .str x) ∨
    ∃ p xs ds, v = .ref p ∧ H p = some (.tup xs) ∧ AllIs H xs ds ∧ xs.length ≤ 3 ∧ (∀ a ∈ ds, a.depth < d.depth) ∧
      ∀ (H' : Hp) (q : Addr) (ys : List V) (far : Int) (word : Str), H' q = some (.tup ys) → AllIs H' ys (ds.map (D.mv far word)) → Is H' (.ref q) (d.mv far word) := by
  cases h with
  | int i => exact .inl ⟨i, rfl, rfl⟩
  | str x => exact .inr (.inl ⟨x, rfl, rfl⟩)
  | @t1 p x a e q1 =>
    refine .inr (.inr ⟨p, [x], [a], rfl, e, .cons q1 .nil, Nat.le_of_ble_eq_true rfl, fun b hb => ?_, fun H' q ys far word hq i => ?_⟩)
    · cases List.mem_singleton.mp hb
      exact Nat.lt_succ_self _
    · cases i with
      | cons i1 r =>
        cases r
        exact .t1 hq i1
  | @t2 p x y a b e q1 q2 =>
    refine .inr (.inr ⟨p, [x, y], [a, b], rfl, e, .cons q1 (.cons q2 .nil), Nat.le_of_ble_eq_true rfl, fun c hc => ?_, fun H' q ys far word hq i => ?_⟩)
    · have hc' : c = a ∨ c = b := by simpa using hc
      show c.depth < max a.depth b.depth + 1
      rcases hc' with rfl | rfl <;> omega
    · cases i with
      | cons i1 r =>
        cases r with
        | cons i2 r =>
          cases r
          exact .t2 hq i1 i2
  | @t3 p x y z a b c e q1 q2 q3 =>
    refine .inr (.inr ⟨p, [x, y, z], [a, b, c], rfl, e, .cons q1 (.cons q2 (.cons q3 .nil)), Nat.le_of_ble_eq_true rfl, fun k hk => ?_, fun H' q ys far word hq i => ?_⟩)
    · have hk' : k = a ∨ k = b ∨ k = c := by simpa using hk
      show k.depth < max (max a.depth b.depth) c.depth + 1
      rcases hk' with rfl | rfl | rfl <;> omega
    · cases i with
      | cons i1 r =>
        cases r with
        | cons i2 r =>
          cases r with
          | cons i3 r =>
            cases r
            exact .t3 hq i1 i2 i3
theorem noN_M : ∀ y ∈ (["_law_thing", "_law_far", "_law_word"] : List Str), scC.names.lookup y ≠ some .local := by decide +kernel
theorem cloM {CX : CXT} {cdv : Value} {A : Around} {outer : List Env} {s : Shared} {H : Hp} {E : XK} :
    Clo (cxOf CX P w K mg base ["_law_thing", "_law_far", "_law_word"] "_law_moved" (defScope sMoved) f cdv A outer s H E).nox scC "_law_one" [("_law_word", s.heap.objs.size + 1 + 1), ("_law_far", s.heap.objs.size + 1)] where
  clos := rfl
  sub := fun y c h => by
    have m := PySem.mem_of_lookup h
    simp only [List.mem_cons, List.not_mem_nil, or_false, Prod.mk.injEq] at m
    rcases m with ⟨rfl, rfl⟩ | ⟨rfl, rfl⟩
    · rfl
    · rfl
  free := fun y h => by
    have m := PySem.mem_of_lookup h
    have m' : (y, NameKind.free) ∈ [((".0" : Str), NameKind.local), ("_law_one", .local), ("_law_moved", .globalImplicit), ("_law_far", .free), ("_law_word", .free)] := m
    simp only [List.mem_cons, List.not_mem_nil, or_false, Prod.mk.injEq, reduceCtorEq, and_false, false_or, and_true] at m'
    rcases m' with rfl | rfl
    · exact ⟨_, rfl⟩
    · exact ⟨_, rfl⟩
  out := fun y h => by
    have m := PySem.mem_of_lookup h
    have m' : (y, NameKind.free) ∈ [((".0" : Str), NameKind.local), ("_law_one", .local), ("_law_moved", .globalImplicit), ("_law_far", .free), ("_law_word", .free)] := m
    simp only [List.mem_cons, List.not_mem_nil, or_false, Prod.mk.injEq, reduceCtorEq, and_false, false_or, and_true] at m'
    rcases m' with rfl | rfl
    · rfl
    · rfl
  cell := by decide +kernel
  kind := rfl
  names := by decide +kernel
  loc := rfl
  noN := noN_M
  nd := by
    show (["_law_thing", "_law_far", "_law_word"] : List Str).Nodup
    decide +kernel
  okind := rfl
theorem pow12 : ((10 : Int) ^ (12 : Int).toNat) = 1000000000000 := by decide
theorem ixI (i : Int) : (if decide (V.int i = V.int ((10 : Int) ^ (12 : Int).toNat)) = true then (1 : Int) else 0) = if i = 1000000000000 then 1 else 0 := by
  rw [pow12]
  by_cases c : i = 1000000000000 <;> simp [c]
theorem ixS (z : Str) : (if decide (V.str z = V.str "") = true then (1 : Int) else 0) = if z = "" then 1 else 0 := by
  by_cases c : z = "" <;> simp [c]
theorem atIf (c : Prop) [Decidable c] (i j : Int) : atI [V.int i, V.int j] (if c then 1 else 0) = some (V.int (if c then j else i)) := by
  by_cases h : c
  · rw [if_pos h, if_pos h]; rfl
  · rw [if_neg h, if_neg h]; rfl
theorem atIfS (c : Prop) [Decidable c] (i j : Str) : atI [V.str i, V.str j] (if c then 1 else 0) = some (V.str (if c then j else i)) := by
  by_cases h : c
  · rw [if_pos h, if_pos h]; rfl
  · rw [if_neg h, if_neg h]; rfl
theorem ok_moved1 {n : Nat} (FN : Fun K "_law_moved" "_law_moved" sMoved f fd) (G : FnOk P w K mg base CX0 n f fd ["_law_thing", "_law_far", "_law_word"] (spMoved n)) (bG : Binds K fd ["_law_thing", "_law_far", "_law_word"] []) (mG : mg "_law_moved" = some (.ref f))
    (mI : mg "isinstance" = none) (mInt : mg "int" = none) (mStr : mg "str" = none) (mTup : mg "tuple" = none) : FnOk P w K mg base CX0 (n + 1) f fd ["_law_thing", "_law_far", "_law_word"] (spMoved (n + 1)) := by
  refine FN.ok scMoved (fun vs H Q E h => ?_) (fun cdv A outer s H vs Q E hr h => ?_)
  · obtain ⟨v, d, far, word, rfl, _⟩ := h
    rfl
  obtain ⟨v, d, far, word, rfl, hv, hd, q⟩ := h
  have bI : bootBuiltins "isinstance" = some (.builtin "isinstance") := PyProof.Rows.boot_isinstance
  have bInt : bootBuiltins "int" = some (.type "int") := PyProof.Rows.boot_int
  have bStr : bootBuiltins "str" = some (.type "str") := PyProof.Rows.boot_str
  have bTup : bootBuiltins "tuple" = some (.type "tuple") := PyProof.Rows.boot_tuple
  refine ⟨_, pss_cons (ps_if (pt_val (pe_callB call_inst rfl mI bI (pa_cons (pv 0) (pa_cons (pe_bltn (v := .ty "tuple") rfl mTup bTup rfl) pa_nil))))
      (pss_one (ps_ret (pe_callTy call_tuple_of rfl mTup bTup (pa_cons (pe_lcomp rfl (pi_tup (pv 0)) (by exact cloM)
        (fun C s₀ H₀ ex => pe_call (X := cxC _ _ _ _ C s₀ H₀ ex) G hr rfl mG FN.kp bG .nil pass0 (pa_cons (pv 0) (pa_cons (pv 2) (pa_cons (pv 3) pa_nil))))) pa_nil)))) pss_nil)
    (pss_cons (ps_if (pt_val (pe_callB call_inst rfl mI bI (pa_cons (pv 0) (pa_cons (pe_bltn (v := .ty "str") rfl mStr bStr rfl) pa_nil))))
      (pss_one (ps_ret (pe_ix ix_list (pe_lst (pa_cons (pv 0) (pa_cons (pv 2) pa_nil))) (pe_callTy call_int1 rfl mInt bInt (pa_cons (pe_cmpR op_eq (pv 0) pe_str (nomark _)) pa_nil)) (fun _ _ => rfl)))) pss_nil)
    (pss_one (ps_ret (pe_ix ix_list (pe_lst (pa_cons (pv 0) (pa_cons (pv 1) pa_nil))) (pe_callTy call_int1 rfl mInt bInt (pa_cons (pe_cmpR op_eq (pv 0) (pe_op op_pow pe_int pe_int) (nomark _)) pa_nil)) (fun _ _ => rfl))))), ?_⟩
  rcases tup_parts hv with ⟨i, rfl, rfl⟩ | ⟨z, rfl, rfl⟩ | ⟨p, xs, ds, rfl, e, hall, hxs, hdep, mk⟩
  · refine ⟨_, rfl, _, _, _, _, rfl, .int i, kit_int_tup K, _, rfl, iteF' rfl ?_⟩
    refine ⟨_, rfl, _, _, _, _, rfl, .int i, kit_int_str K, _, rfl, iteF' rfl ?_⟩
    refine ⟨_, rfl, _, rfl, lenOk rfl, fun l hl => ?_⟩
    exact ⟨_, rfl, _, _, rfl, rfl, ⟨by decide, by decide, by decide⟩, rfl, .inr ⟨_, rfl, l, _, _, _, rfl, congrArg V.int (ixI i), SqL.of upd_same, atIf (i = 1000000000000) i far, q _ _ (same_new hl _) (.int _)⟩⟩
  · refine ⟨_, rfl, _, _, _, _, rfl, .str z, kit_str_tup K, _, rfl, iteF' rfl ?_⟩
    refine ⟨_, rfl, _, _, _, _, rfl, .str z, kit_same K "str", _, rfl, iteT' rfl ?_⟩
    refine ⟨_, rfl, _, rfl, lenOk rfl, fun l hl => ?_⟩
    exact ⟨_, rfl, rfl, .inr ⟨_, rfl, l, _, _, _, rfl, congrArg V.int (ixS z), SqL.of upd_same, atIfS (z = "") z word, q _ _ (same_new hl _) (.str _)⟩⟩
  · refine ⟨_, rfl, _, _, _, _, rfl, .tup e, kit_same K "tuple", _, rfl, iteT' rfl ?_⟩
    have hln := hall.len
    refine ⟨_, rfl, p, rfl, ⟨xs, SqT.of e⟩, comp_tup (fun i ys H' => Same H H' ∧ AllIs H' ys ((ds.take i).map (D.mv far word))) (le_line (by omega)) ⟨Same.refl H, .nil⟩ (fun i ys H' z => SqT.of (z.1 _ _ e)) (fun i x ys H' hx z => ?_) (fun ys H' z hy l hl => ?_)⟩
    · obtain ⟨d', hd', hi⟩ := hall.get hx
      have hdd := hdep d' (List.mem_of_getElem? hd')
      refine ⟨_, rfl, _, rfl, _, rfl, x, d', far, word, rfl, hi.mono z.1, by omega, fun r H2 g2 i2 => ⟨z.1.trans g2, ?_⟩⟩
      have et : ds.take (i + 1) = ds.take i ++ [d'] := by
        rw [List.take_add_one, hd']
        rfl
      rw [et, List.map_append]
      exact (z.2.mono g2).append (.cons i2 .nil)
    · refine ⟨l, ys, rfl, .inl ⟨SqL.of upd_same, fun l2 hl2 => ?_⟩⟩
      have g1 := same_new hl (.lst ys)
      have g2 := same_new hl2 (.tup ys)
      refine q _ _ (z.1.trans (g1.trans g2)) (mk _ l2 ys far word upd_same ?_)
      have a1 := z.2
      rw [List.take_of_length_le (by omega)] at a1
      exact (a1.mono g1).mono g2
theorem ok_moved (FN : Fun K "_law_moved" "_law_moved" sMoved f fd) (bG : Binds K fd ["_law_thing", "_law_far", "_law_word"] []) (mG : mg "_law_moved" = some (.ref f))
    (mI : mg "isinstance" = none) (mInt : mg "int" = none) (mStr : mg "str" = none) (mTup : mg "tuple" = none) : ∀ n : Nat, FnOk P w K mg base CX0 n f fd ["_law_thing", "_law_far", "_law_word"] (spMoved n)
  | 0 => by
    have no : ∀ vs H Q E, ¬ spMoved 0 vs H Q E := fun vs H Q E h => by
      obtain ⟨v, d, far, word, _, _, hd, _⟩ := h
      exact absurd hd (Nat.not_lt_zero _)
    exact ⟨fun vs H Q E h => absurd h (no vs H Q E), fun A outer s H args us vs Q E _ _ _ _ h => absurd h (no vs H Q E)⟩
  | n + 1 => ok_moved1 FN (ok_moved FN bG mG mI mInt mStr mTup n) bG mG mI mInt mStr mTup
end
end ST
set_option Elab.async false
set_option linter.all false
set_option maxRecDepth 100000
set_option maxHeartbeats 4000000
namespace ST
variable [TN]
open PySem L2
seal L2.PE L2.PA L2.PS L2.PSs L2.PT L2.PW L2.PG L2.PGs L2.PI
section
variable {P : Program} {w : World} {K : PySem.W.Frag} {mg : Str → Option Value} {base : Heap} {f g : Addr} {fd gd : FuncData}
theorem scFar : FnScope ["_law_script", "_law_cell"] ["_law_script"] (defScope sFar) := ⟨rfl, rfl, rfl, by decide +kernel, rfl, by decide +kernel, by decide +kernel⟩
theorem pow30 : (0 : Int) < ((10 : Int) ^ (30 : Int).toNat) := by decide
theorem ok_far (FN : Fun K "_law_far_by" "_law_far_by" sFar f fd) (mS : mg "sum" = none) : FnOk P w K mg base CX0 1 f fd ["_law_script"] (spFar K) := by
  refine FN.ok scFar (fun vs H Q E h => ?_) (fun cdv A outer s H vs Q E hr h => ?_)
  · obtain ⟨a, ns, rfl, _⟩ := h
    rfl
  obtain ⟨a, ns, rfl, hS, h63, q⟩ := h
  have bS : bootBuiltins "sum" = some (.builtin "sum") := PyProof.Rows.boot_sum
  refine ⟨_, pss_cons (ps_set (i := 1) scFar.nd rfl (Or.inl rfl) (pe_callB (call_sumI rfl) rfl mS bS (pa_cons (pe_slice sl_list (pv 0) po_none (po_some pe_int)) pa_nil)))
    (pss_one (ps_ret (pe_ix ix_list (pe_lst (pa_cons (pe_op op_pow pe_int pe_int) (pa_cons (pe_op op_add pe_int (pe_op op_mod (pv 1) (pe_op op_pow pe_int pe_int)))
      (pa_cons (pe_op op_sub (pe_un un_neg pe_int) (pe_op op_mod (pv 1) (pe_op op_pow pe_int pe_int))) pa_nil)))) (pe_op op_mod (pv 1) pe_int) (fun _ _ => rfl)))), ?_⟩
  obtain ⟨ms, em, _⟩ := cut_ints ns none (some 1)
  refine ⟨_, rfl, _, rfl, a, _, rfl, hS, fun p hp => ⟨p, ms, rfl, SqL.of (by rw [upd_same, em]), fun c => ?_⟩⟩
  have g1 := same_new hp (.lst (cutV (ns.map V.int) none (some 1)))
  refine ⟨_, _, rfl, rfl, ⟨by decide, by decide, by decide⟩, ?_⟩
  refine ⟨_, rfl, _, _, rfl, rfl, ⟨by decide, by decide, by decide⟩, _, _, rfl, rfl, pow30, _, _, rfl, rfl, ?_⟩
  refine ⟨_, rfl, _, rfl, _, _, rfl, rfl, ⟨by decide, by decide, by decide⟩, _, _, rfl, rfl, pow30, _, _, rfl, rfl, ?_⟩
  refine ⟨lenOk rfl, fun l hl => ?_⟩
  have g2 := g1.trans (same_new hl (.lst [V.int ((10 : Int) ^ (12 : Int).toNat), V.int (10 + c % (10 : Int) ^ (30 : Int).toNat), V.int (-10 - c % (10 : Int) ^ (30 : Int).toNat)]))
  obtain ⟨v, hv, n, rfl⟩ := at3 (a := V.int ((10 : Int) ^ (12 : Int).toNat)) (b := V.int (10 + c % (10 : Int) ^ (30 : Int).toNat)) (c := V.int (-10 - c % (10 : Int) ^ (30 : Int).toNat))
    (i := c % 3) (Int.emod_nonneg _ (by decide)) (Int.emod_lt_of_pos c (by decide)) (P := fun v => ∃ n, v = V.int n) ⟨_, rfl⟩ ⟨_, rfl⟩ ⟨_, rfl⟩
  exact ⟨_, rfl, _, _, rfl, rfl, (show (0 : Int) < 3 by decide), l, _, _, _, rfl, rfl, SqL.of upd_same, hv, q n _ g2⟩
theorem scWord : FnScope ["_law_script", "_law_cell", "_law_signs"] ["_law_script"] (defScope sWord) := ⟨rfl, rfl, rfl, by decide +kernel, rfl, by decide +kernel, by decide +kernel⟩
noncomputable def signs : Str := match defBody sWord with
  | _ :: .Assign _ (.Constant (.str z) _ _) _ :: _ => z
  | _ => ""
theorem signs_len : signs.length = 81 := by decide +kernel
theorem ok_word (FN : Fun K "_law_word_by" "_law_word_by" sWord f fd) (mS : mg "sum" = none) (ml : mg "len" = none) : FnOk P w K mg base CX0 1 f fd ["_law_script"] (spWord K) := by
  refine FN.ok scWord (fun vs H Q E h => ?_) (fun cdv A outer s H vs Q E hr h => ?_)
  · obtain ⟨a, ns, rfl, _⟩ := h
    rfl
  obtain ⟨a, ns, rfl, hS, h63, q⟩ := h
  have bS : bootBuiltins "sum" = some (.builtin "sum") := PyProof.Rows.boot_sum
  refine ⟨_, pss_cons (ps_set (i := 1) scWord.nd rfl (Or.inl rfl) (pe_callB (call_sumI rfl) rfl mS bS (pa_cons (pe_slice sl_list (pv 0) po_none (po_some pe_int)) pa_nil)))
    (pss_cons (ps_set (i := 2) scWord.nd rfl (Or.inl rfl) (pe_str (x := signs)))
    (pss_one (ps_ret (pe_ix ix_list (pe_lst (pa_cons pe_str (pa_cons (pe_op op_add_str pe_str (pe_ix ix_str (pv 2) (pe_op op_mod (pv 1) (pe_callB call_len_str rfl ml PySem.boot_len (pa_cons (pv 2) pa_nil))) (fun _ _ => rfl))) pa_nil)))
      (pe_op op_mod (pe_op op_fdiv (pv 1) pe_int) pe_int) (fun _ _ => rfl))))), ?_⟩
  obtain ⟨ms, em, _⟩ := cut_ints ns none (some 2)
  refine ⟨_, rfl, _, rfl, a, _, rfl, hS, fun p hp => ⟨p, ms, rfl, SqL.of (by rw [upd_same, em]), fun c => ?_⟩⟩
  have g1 := same_new hp (.lst (cutV (ns.map V.int) none (some 2)))
  have hz : signs.length ≤ sizeLine := le_line (by rw [signs_len]; decide)
  have h0 : (0 : Int) < (signs.length : Int) := by rw [signs_len]; decide
  have hl : signs.cps.toList.length = signs.length := by simp [Str.length]
  obtain ⟨ch, hc, _⟩ := atI_in (xs := signs.cps.toList) (i := c % (signs.length : Int)) (Int.emod_nonneg _ (by omega)) (by rw [hl]; exact Int.emod_lt_of_pos c h0)
  refine ⟨_, rfl, _, rfl, _, rfl, _, rfl, hz, _, _, rfl, rfl, h0, _, _, ch, rfl, rfl, hz, hc, _, _, rfl, rfl, ?_⟩
  refine ⟨le_line ?_, lenOk rfl, fun l hl => ?_⟩
  · show 1 + 1 ≤ 1000
    decide
  have g2 := g1.trans (same_new hl (.lst [V.str "", V.str (("c" : Str) ++ ⟨#[ch]⟩)]))
  obtain ⟨v, hv, n, rfl⟩ := at2 (a := V.str "") (b := V.str (("c" : Str) ++ ⟨#[ch]⟩)) (i := c / 3 % 2) (Int.emod_nonneg _ (by decide)) (Int.emod_lt_of_pos _ (by decide)) (P := fun v => ∃ n, v = V.str n) ⟨_, rfl⟩ ⟨_, rfl⟩
  exact ⟨_, rfl, _, _, rfl, rfl, ⟨by decide, by decide⟩, _, _, rfl, rfl, (show (0 : Int) < 2 by decide), l, _, _, _, rfl, rfl, SqL.of upd_same, hv, q n _ g2⟩
end
end ST
set_option Elab.async false
set_option linter.all false
set_option maxRecDepth 100000
set_option maxHeartbeats 4000000
namespace ST
variable [TN]
open PySem L2
noncomputable def spUnfit : Sp := fun vs H Q _ => ∃ (a : Addr) (us : List V) (ss : List Sh), vs = [.ref a] ∧ H a = some (.lst us) ∧ AllIs H us (ss.map Sh.d) ∧ Good ss ∧
  ∀ (l : Addr) (H' : Hp), Same H H' → ((H' l = some (.lst []) ∧ ∀ x : Va, first ss x ≠ none) ∨ ∃ v x, H' l = some (.lst [v]) ∧ Is H' v (Va.d x) ∧ x.size ≤ 100000 ∧ first ss x = none) → Q (.ref l) H'
noncomputable def spUnfit2 (T1 T2 T3 : Addr) : Sp := fun vs H Q E => spUnfit vs H Q E ∧ TabQ H T1 (TN.nm T1) ∧ TabQ H T2 (TN.nm T2) ∧ TabQ H T3 (TN.nm T3)
noncomputable def spLawT (K : PySem.W.Frag) (T1 T2 T3 : Addr) : Sp := fun vs H Q E => spLaw K vs H Q E ∧ TabQ H T1 (TN.nm T1) ∧ TabQ H T2 (TN.nm T2) ∧ TabQ H T3 (TN.nm T3)
seal L2.PE L2.PA L2.PS L2.PSs L2.PT L2.PW L2.PG L2.PGs L2.PI
section
variable {P : Program} {w : World} {K : PySem.W.Frag} {mg : Str → Option Value} {base : Heap}
theorem sc_law : FnScope ["_law_script", "_law_rows", "_law_more", "_law_far", "_law_word", "_law_handed", "_law_found", "_law_value"] ["_law_script"] (defScope sLaw) := ⟨rfl, rfl, rfl, by decide +kernel, rfl, by decide +kernel, by decide +kernel⟩
theorem ok_law {T1 T2 T3 : Addr} {f : Addr} {fd : FuncData} (FN : Fun K "law" "law" sLaw f fd) (B : Blt mg) (c__law_at : Callee P w K mg base 1 "_law_at" ["_law_script", "_law_k"] (spAt K)) (c__law_flat_rows : Callee P w K mg base 3 "_law_flat_rows" ["_law_cells"] (spRows K))
    (c__law_far_by : Callee P w K mg base 1 "_law_far_by" ["_law_script"] (spFar K)) (c__law_word_by : Callee P w K mg base 1 "_law_word_by" ["_law_script"] (spWord K)) (c__law_moved : Callee P w K mg base 20 "_law_moved" ["_law_thing", "_law_far", "_law_word"] (spMoved 20))
    (c_unfit : Callee P w K mg base 157 "unfit" ["rows"] (spUnfit2 T1 T2 T3)) (c__law_same : Callee P w K mg base 2 "_law_same" ["_law_found", "_law_due"] spSame) (c__law_is_value : Callee P w K mg base 2 "_law_is_value" ["_law_found"] spIsV)
    (c__law_first_of : Callee P w K mg base 3 "_law_first_of" ["_law_rows", "_law_value"] spFirst) (c__law_all_values : Callee P w K mg base 1 "_law_all_values" [] spVals) : FnOk P w K mg base CX0 158 f fd ["_law_script"] (spLawT K T1 T2 T3) := by
  refine FN.ok sc_law (fun vs H Q E h => ?_) (fun cdv A outer s H vs Q E hr h => ?_)
  · obtain ⟨⟨a, ns, rfl, _⟩, _⟩ := h
    rfl
  obtain ⟨⟨a, ns, rfl, hS, h63, q⟩, tab1, tab2, tab3⟩ := h
  have hu := hr.units0
  refine ⟨_, ((pss_cons (ps_set (i := 1) sc_law.nd rfl (Or.inl rfl) (pe_callC c__law_flat_rows hr rfl (pa_cons (pe_slice sl_list (pv 0) (po_some pe_int) (po_some (pe_ix ix_list (lit_lst (al_int (al_int all_nil))) (pe_callTy call_int1 rfl B.int_ PyProof.Rows.boot_int (pa_cons (pe_cmpR op_gt (pe_callB call_len_seq rfl B.len_ PySem.boot_len (pa_cons (pv 0) pa_nil)) pe_int (nomark _)) pa_nil)) (fun _ _ => rfl)))) pa_nil)))
    (pss_cons (ps_mid (ps_if (pt_cmpR op_eq (pe_op op_mod (pe_callC c__law_at hr rfl (pa_cons (pv 0) (pa_cons pe_int pa_nil))) pe_int) pe_int (nomark _))
      (pss_cons (ps_set (i := 2) sc_law.nd rfl (Or.inl rfl) (lit_lstF (al_t2 (al_str (al_str all_nil)) (al_t2 (al_str (al_str all_nil)) (al_t2 (al_str (al_str all_nil)) all_nil)))))
      (pss_cons (ps_mid (ps_if (pt_cmpR op_gt (pe_op op_mod (pe_callC c__law_at hr rfl (pa_cons (pv 0) (pa_cons pe_int pa_nil))) pe_int) pe_int (nomark _))
        (pss_one (ps_expr (pe_bm F.plainAttrs_list F.slot_list_pop tyPop mt_popAt (pv 2) (pa_cons (pe_op op_sub (pe_op op_mod (pe_callC c__law_at hr rfl (pa_cons (pv 0) (pa_cons pe_int pa_nil))) pe_int) pe_int) pa_nil)))) pss_nil))
      (pss_one (ps_set (i := 1) sc_law.nd rfl (Or.inl rfl) (pe_op op_cat (pv 1) (pv 2)))))) pss_nil))
    (pss_cons (ps_set (i := 3) sc_law.nd rfl (Or.inr rfl) (pe_callC c__law_far_by hr rfl (pa_cons (pv 0) pa_nil)))
    (pss_cons (ps_set (i := 4) sc_law.nd rfl (Or.inr rfl) (pe_callC c__law_word_by hr rfl (pa_cons (pv 0) pa_nil)))
    (pss_cons (ps_setCompS (i := 1) sc_law.nd rfl (Or.inl rfl) rfl (pi_list (pv 1)) (cloS_of (defScope sLaw).names ["_law_script", "_law_rows", "_law_more", "_law_far", "_law_word", "_law_handed", "_law_found", "_law_value"] rfl rfl (by decide +kernel) rfl) (fun cl C s₀ H₀ ex => (pe_callC c__law_moved hr rfl (pa_cons (pv 0) (pa_cons (pv 4) (pa_cons (pv 5) pa_nil))))))
    (pss_cons (ps_set (i := 5) sc_law.nd rfl (Or.inl rfl) (pe_callTy call_list_of rfl B.list_ PyProof.Rows.boot_list (pa_cons (pv 1) pa_nil)))
    (pss_cons (ps_set (i := 6) sc_law.nd rfl (Or.inl rfl) (pe_callC c_unfit hr rfl (pa_cons (pv 5) pa_nil)))
    (pss_cons (ps_if (PW.pt (pw_or (pt_not (pt_val (pe_callC c__law_same hr rfl (pa_cons (pv 5) (pa_cons (pv 1) pa_nil))))) (pw_or1 (pt_not (pt_val (pe_callB call_inst rfl B.isinstance_ PyProof.Rows.boot_isinstance (pa_cons (pv 6) (pa_cons (pe_bltn (v := .ty "list") rfl B.list_ PyProof.Rows.boot_list rfl) pa_nil))))))))
      (pss_one (ps_ret pe_bl)) pss_nil)
    (pss_cons (ps_if (pt_cmpR op_eq (pe_callB call_len_seq rfl B.len_ PySem.boot_len (pa_cons (pv 6) pa_nil)) pe_int (nomark _))
      (pss_one (ps_ret (pe_and (pe_callC c__law_is_value hr rfl (pa_cons (pe_ix ix_list (pv 6) pe_int (fun _ _ => rfl)) pa_nil)) (pe_one (pe_cmp (pc_isN (pe_callC c__law_first_of hr rfl (pa_cons (pv 1) (pa_cons (pe_ix ix_list (pv 6) pe_int (fun _ _ => rfl)) pa_nil))))))))) pss_nil)
    (pss_cons (ps_if (pt_cmpR (op_neNil hu) (pv 6) (pe_lst pa_nil) (nomark _))
      (pss_one (ps_ret pe_bl)) pss_nil)
    (pss_cons (ps_for PassesOwn.never rfl (pi_list (pe_callC0 c__law_all_values hr rfl)) (pg_name (i := 7) sc_law.nd rfl (Or.inl rfl))
      (pss_one (ps_if (pt_cmp (pc_isN (pe_callC c__law_first_of hr rfl (pa_cons (pv 1) (pa_cons (pe_callC c__law_moved hr rfl (pa_cons (pv 7) (pa_cons (pv 3) (pa_cons (pv 4) pa_nil)))) pa_nil)))))
        (pss_one (ps_ret pe_bl)) pss_nil)))
    (pss_one (ps_ret pe_bl)))))))))))))), ?_⟩
  -- the rows that the cells build
  refine ⟨_, rfl, _, rfl, fun ll vl H1 g1 e1 i1 => ?_⟩
  have pk : ∀ c : Bool, ∃ n, atI vl (if c = true then (1 : Int) else 0) = some (.int n) := fun c => by
    obtain ⟨v, d, hv, hd, hi⟩ := i1.at (i := if c = true then (1 : Int) else 0) (by cases c <;> decide) (by cases c <;> decide)
    simp only [List.mem_cons, List.not_mem_nil, or_false] at hd
    rcases hd with rfl | rfl <;> exact ⟨_, by rw [hv, is_int hi]⟩
  obtain ⟨n0, hv0⟩ := pk (decide ((63 : Int) < (((ns.map V.int).length : Nat) : Int)))
  obtain ⟨ms, em, hms⟩ := cut_ints ns (some 2) (some n0)
  refine ⟨_, rfl, a, _, rfl, .inl (g1.seq hS), _, _, rfl, rfl, .inr ⟨_, rfl, ll, vl, _, _, rfl, rfl, SqL.of e1, hv0, n0, rfl, a, _, rfl, g1.seq hS, fun lc hlc => ?_⟩⟩
  refine ⟨lc, ms, rfl, SqL.of (by rw [upd_same, em]), by omega, fun l us ss H2 g2 _ e2 al hb hlen => ?_⟩
  have gs := g1.trans ((same_new hlc _).trans g2)
  -- if at(script, 0) % 2 == 1
  refine ⟨fun σ' H' => ∃ (l : Addr) (us : List V) (ss : List Sh) (o2 : Option V), σ' = [some (.ref a), some (.ref l), o2, none, none, none, none, none] ∧ H' l = some (.lst us) ∧ AllIs H' us (ss.map Sh.d) ∧ (∀ s ∈ ss, s.size ≤ 3 ∧ s.d.depth ≤ 2) ∧ us.length ≤ 40 ∧ Same H H', ?_, ?_⟩
  · refine ⟨_, rfl, a, ns, _, rfl, gs.seq hS, h63, fun c H3 g3 => ⟨_, _, rfl, rfl, (show (0 : Int) < 2 by decide), rfl, _, rfl, iteB (fun _ => ?_) (fun _ => ?_)⟩⟩
    · intro lm vm H4 g4 hm e4 i4
      have hne : l ≠ lm := ne_of_none (g3 _ _ e2) hm
      have g34 := g3.trans g4
      refine ⟨fun σ' H' => ∃ (vm : List V) (ks : List Sh), σ' = [some (.ref a), some (.ref l), some (.ref lm), none, none, none, none, none] ∧ H' lm = some (.lst vm) ∧ AllIs H' vm (ks.map Sh.d) ∧ (∀ s ∈ ks, s.size ≤ 3 ∧ s.d.depth ≤ 2) ∧ vm.length ≤ 3 ∧ H' l = some (.lst us) ∧ AllIs H' us (ss.map Sh.d) ∧ Same H H', ?_, ?_⟩
      · have hk : ∀ s ∈ [Sh.kind .n, .kind .t, .kind .p], s.size ≤ 3 ∧ s.d.depth ≤ 2 := by decide
        have n4 : vm.length = 3 := i4.len
        refine ⟨_, rfl, a, ns, _, rfl, (gs.trans g34).seq hS, h63, fun c H5 g5 => ⟨_, _, rfl, rfl, (show (0 : Int) < 4 by decide), _, _, rfl, rfl, _, rfl, iteB (fun _ => ?_) (fun _ => ?_)⟩⟩
        · refine ⟨_, rfl, .inl ⟨rfl, vm, SqL.of (g5 _ _ e4)⟩, _, rfl, a, ns, _, rfl, (gs.trans (g34.trans g5)).seq hS, h63, fun c2 H6 g6 => ?_⟩
          have g56 := g5.trans g6
          obtain ⟨k, y, hk1, hk2⟩ : ∃ k y, seqIndex? (c2 % 4 - 1) vm.length = some k ∧ vm[k]? = some y := by
            have h0 := Int.emod_nonneg c2 (show (4 : Int) ≠ 0 by decide)
            have h1 := Int.emod_lt_of_pos c2 (show (0 : Int) < 4 by decide)
            have hget : ∀ k : Nat, k < 3 → ∃ y, vm[k]? = some y := fun k hk => ⟨_, List.getElem?_eq_getElem (by omega)⟩
            rw [n4]
            have hc : c2 % 4 - 1 = -1 ∨ c2 % 4 - 1 = 0 ∨ c2 % 4 - 1 = 1 ∨ c2 % 4 - 1 = 2 := by omega
            rcases hc with h | h | h | h <;> rw [h]
            · obtain ⟨y, hy⟩ := hget 2 (by decide); exact ⟨2, y, by decide, hy⟩
            · obtain ⟨y, hy⟩ := hget 0 (by decide); exact ⟨0, y, by decide, hy⟩
            · obtain ⟨y, hy⟩ := hget 1 (by decide); exact ⟨1, y, by decide, hy⟩
            · obtain ⟨y, hy⟩ := hget 2 (by decide); exact ⟨2, y, by decide, hy⟩
          have h0 := Int.emod_nonneg c2 (show (4 : Int) ≠ 0 by decide)
          have h1 := Int.emod_lt_of_pos c2 (show (0 : Int) < 4 by decide)
          refine ⟨_, _, rfl, rfl, (show (0 : Int) < 4 by decide), _, _, rfl, rfl, lm, vm, _, k, y, rfl, rfl, g56 _ _ e4, (by show -(2 ^ 63) ≤ c2 % 4 - 1; omega), (by show c2 % 4 - 1 < 2 ^ 63; omega), hk1, hk2, ?_⟩
          have t6 := tk_lst (ys := vm.eraseIdx k) (g56 _ _ e4)
          refine ⟨vm.eraseIdx k, [Sh.kind .n, .kind .t, .kind .p].eraseIdx k, rfl, upd_same, ?_, fun s hs => hk s (List.mem_of_mem_eraseIdx hs), ?_, ?_, ?_, ?_⟩
          · rw [← map_erase]
            exact ((i4.mono g56).tk t6).erase k
          · have := len_erase vm k
            omega
          · rw [upd_ne hne]
            exact g56 _ _ (g34 _ _ e2)
          · exact (al.mono (g34.trans g56)).tk t6
          · exact (gs.trans (g34.trans g56)).upd (gs.free (g3.free hm)) _
        · exact ⟨vm, [.kind .n, .kind .t, .kind .p], rfl, g5 _ _ e4, i4.mono g5, hk, by omega, g5 _ _ (g34 _ _ e2), al.mono (g34.trans g5), gs.trans (g34.trans g5)⟩
      · rintro σ5 H5 ⟨vm5, ks, rfl, em5, am5, bm5, nm5, el5, al5, gs5⟩
        refine ⟨_, rfl, _, rfl, l, lm, us, vm5, rfl, rfl, el5, em5, le_line (by omega), fun l7 hl7 => ?_⟩
        have g7 := same_new hl7 (.lst (us ++ vm5))
        refine ⟨l7, us ++ vm5, ss ++ ks, _, rfl, upd_same, ?_, fun s hs => ?_, by rw [List.length_append]; omega, gs5.trans g7⟩
        · rw [List.map_append]
          exact (al5.append am5).mono g7
        · rcases List.mem_append.mp hs with z | z
          · exact hb s z
          · exact bm5 s z
    · exact ⟨l, us, ss, _, rfl, g3 _ _ e2, al.mono g3, hb, by omega, gs.trans g3⟩
  clear e2 al hb hlen gs g2
  rintro σ2 Hs ⟨l, us, ss, o2, rfl, e2, al, hb, hlen, gs⟩
  -- far, word, the rows moved
  refine ⟨_, rfl, a, ns, rfl, gs.seq hS, h63, fun far H3 g3 => ?_⟩
  refine ⟨_, rfl, a, ns, rfl, (gs.trans g3).seq hS, h63, fun word H4 g4 => ?_⟩
  have g34 := g3.trans g4
  have e4 := g34 _ _ e2
  have al4 := al.mono g34
  have hl : us.length = ss.length := by rw [al.len, List.length_map]
  refine ⟨_, rfl, l, rfl, ⟨us, SqL.of e4⟩, comp_list (fun i ys H' => Same H4 H' ∧ AllIs H' ys ((ss.take i).map fun s => (s.mv far word).d)) (le_line (by omega)) ⟨Same.refl _, .nil⟩ (fun i ys H' z => SqL.of (z.1 _ _ e4)) (fun i x ys H' hx z => ?_) (fun ys H5 z hy lr hlr => ?_)⟩
  · obtain ⟨s', hs', his⟩ := al4.mapGet hx
    have hb' := hb s' (List.mem_of_getElem? hs')
    refine ⟨_, rfl, _, rfl, _, rfl, x, s'.d, far, word, rfl, his.mono z.1, by omega, fun r H6 g6 i6 => ⟨z.1.trans g6, ?_⟩⟩
    rw [Sh.mv_d] at i6
    have et : ss.take (i + 1) = ss.take i ++ [s'] := by rw [List.take_add_one, hs']; rfl
    rw [et, List.map_append]
    exact (z.2.mono g6).append (.cons i6 .nil)
  have alr : AllIs H5 ys ((ss.map (Sh.mv far word)).map Sh.d) := by
    have z2 := z.2
    rw [List.take_of_length_le (by omega)] at z2
    rw [List.map_map]
    exact z2
  have g5 := z.1
  generalize hss : ss.map (Sh.mv far word) = ss' at alr
  have good : Good ss' := by
    rw [← hss]
    refine ⟨by rw [List.length_map]; omega, fun s hs => ?_⟩
    obtain ⟨s0, h0, rfl⟩ := List.mem_map.mp hs
    have hb0 := hb s0 h0
    rw [Sh.mv_size, ← Sh.mv_d, D.mv_depth]
    omega
  have g6 := same_new hlr (.lst ys)
  -- handed, found
  refine ⟨_, rfl, lr, ys, rfl, .inl (SqL.of upd_same), fun lh hlh => ?_⟩
  have g7 := same_new hlh (.lst ys)
  have al7 := alr.mono (g6.trans g7)
  have er7 := g7 _ _ (upd_same (H := H5) (a := lr) (o := .lst ys))
  have eh7 : upd (upd H5 lr (.lst ys)) lh (.lst ys) lh = some (.lst ys) := upd_same
  have gs7 := gs.trans (g34.trans (g5.trans (g6.trans g7)))
  generalize upd (upd H5 lr (.lst ys)) lh (.lst ys) = H7 at al7 er7 eh7 gs7 ⊢
  have hys : ys.length ≤ 45 := by rw [hy]; omega
  refine ⟨_, rfl, ⟨lh, ys, ss', rfl, eh7, al7, good, fun lf H8 g8 alt => ?_⟩, gs7.tab _ tab1, gs7.tab _ tab2, gs7.tab _ tab3⟩
  have hw := wts_le (c := 20) (ss := ss') fun s hs => Nat.le_trans (good.2 s hs).1 (by decide)
  have hgl := good.1
  refine ⟨_, rfl, _, rfl, _, _, _, rfl, Tws.lists (g8 _ _ eh7) (g8 _ _ er7) (al7.mono g8), by omega, fun H9 g9 => ⟨_, rfl, iteF' rfl ?_⟩⟩
  have g89 := g8.trans g9
  have er9 := g89 _ _ er7
  have al9 := al7.mono g89
  have gsz : ∀ s ∈ ss', s.size ≤ 1000 := fun s hs => by have := (good.2 s hs).1; omega
  rcases alt with ⟨ef, hall⟩ | ⟨v, x, ef, hv, hx, hnone⟩
  · have ef9 := g9 _ _ ef
    refine ⟨_, rfl, _, _, _, _, rfl, .lst ef9, kit_same K "list", _, rfl, iteF' rfl ?_⟩
    refine ⟨_, rfl, lf, _, rfl, .inl (SqL.of ef9), rfl, _, rfl, iteF' rfl ?_⟩
    refine ⟨_, rfl, lenOk rfl, fun l0 hl0 => ?_⟩
    have g10 := same_new hl0 (.lst [])
    refine ⟨lf, l0, [], rfl, rfl, SqL.of (g10 _ _ ef9), SqL.of upd_same, _, rfl, iteF' rfl ?_⟩
    refine ⟨rfl, fun lv uv xs H11 g11 _ e11 al11 d11 n11 => ?_⟩
    refine ⟨lv, rfl, ⟨uv, SqL.of e11⟩, for_list (xs := uv) (fun i σ' H' => ∃ o7, σ' = [some (.ref a), some (.ref lr), o2, some (.int far), some (.str word), some (.ref lh), some (.ref lf), o7] ∧ Same H11 H') ⟨_, rfl, Same.refl _⟩ (fun i σ' H' _ z => ?_) (fun i u σ' H' hu' z => ?_) (fun σ' H' z => ?_)⟩
    · obtain ⟨o7, _, k⟩ := z
      exact SqL.of (k _ _ e11)
    · obtain ⟨o7, rfl, k⟩ := z
      obtain ⟨y, hy', iy⟩ := al11.mapGet hu'
      have hd := d11 y (List.mem_of_getElem? hy')
      refine ⟨_, rfl, _, rfl, _, rfl, _, rfl, u, y.d, far, word, rfl, iy.mono k, by omega, fun r H12 g12 i12 => ?_⟩
      rw [Va.mv_d] at i12
      have up := g10.trans (g11.trans (k.trans g12))
      refine ⟨lr, ys, ss', r, _, rfl, up _ _ er9, al9.mono up, by omega, gsz, i12, fun H13 g13 => ⟨_, rfl, iteF' ?_ ⟨_, rfl, k.trans (g12.trans g13)⟩⟩⟩
      have hf := hall (y.mv far word)
      cases e : first ss' (y.mv far word) with
      | none => exact absurd e hf
      | some k => rfl
    · obtain ⟨o7, rfl, k⟩ := z
      exact q _
  · have ef9 := g9 _ _ ef
    refine ⟨_, rfl, _, _, _, _, rfl, .lst ef9, kit_same K "list", _, rfl, iteF' rfl ?_⟩
    refine ⟨_, rfl, lf, _, rfl, .inl (SqL.of ef9), rfl, _, rfl, iteT' rfl ?_⟩
    refine ⟨_, rfl, lf, _, _, _, rfl, rfl, SqL.of ef9, rfl, v, x, rfl, hv.mono g9, hx, fun H10 g10 => ⟨_, rfl, iteT' rfl ?_⟩⟩
    refine ⟨_, rfl, _, rfl, lf, _, _, _, rfl, rfl, SqL.of (g10 _ _ ef9), rfl, lr, ys, ss', v, x, rfl, g10 _ _ er9, al9.mono g10, by omega, gsz, (hv.mono g9).mono g10, fun H11 g11 => ?_⟩
    rw [hnone]
    exact q _
end
end ST
set_option Elab.async false
set_option linter.all false
set_option maxRecDepth 100000
set_option maxHeartbeats 4000000
namespace ST
variable [TN]
open PySem L2
theorem needs_pl : ∀ {s : Sh} {p : List Bool} {q : Qn} {a : At}, (q, a) ∈ needsOf s p → q.pl.length + 1 ≤ p.length + s.size
  | .any, p, q, a, h => by simp [needsOf] at h
  | .kind k, p, q, a, h => by simp [needsOf] at h; rw [h.1]; simp [Qn.pl, Sh.size]
  | .si i, p, q, a, h => by simp [needsOf] at h; rcases h with h | h <;> (rw [h.1]; simp [Qn.pl, Sh.size])
  | .ss i, p, q, a, h => by simp [needsOf] at h; rcases h with h | h <;> (rw [h.1]; simp [Qn.pl, Sh.size])
  | .pair b c, p, q, a, h => by
    have hb := b.size_pos
    have hc := c.size_pos
    show q.pl.length + 1 ≤ p.length + (b.size + c.size + 1)
    rcases List.mem_cons.mp h with e | h
    · have e' : q = .k p := (Prod.mk.inj e).1
      rw [e']
      show p.length + 1 ≤ _
      omega
    · rcases List.mem_append.mp h with h | h
      · have := needs_pl h; rw [List.length_append] at this; simp at this; omega
      · have := needs_pl h; rw [List.length_append] at this; simp at this; omega
theorem kinds_len : ∀ {s : Sh} {p : List Bool}, kindsOnly (needsOf s p) = true → (needsOf s p).length ≤ s.size
  | .any, p, _ => by simp [needsOf]
  | .kind k, p, _ => by simp [needsOf, Sh.size]
  | .si i, p, h => by simp [needsOf, kindsOnly] at h
  | .ss i, p, h => by simp [needsOf, kindsOnly] at h
  | .pair b c, p, h => by
    unfold kindsOnly at h
    have h' : ((needsOf b (p ++ [false]) ++ needsOf c (p ++ [true])).all fun n => match n.1 with | .k _ => true | .s _ => false) = true := by
      rw [needsOf, List.all_cons, Bool.and_eq_true] at h
      exact h.2
    rw [List.all_append, Bool.and_eq_true] at h'
    have h1 := kinds_len (s := b) (p := p ++ [false]) h'.1
    have h2 := kinds_len (s := c) (p := p ++ [true]) h'.2
    show (needsOf b (p ++ [false]) ++ needsOf c (p ++ [true])).length + 1 ≤ b.size + c.size + 1
    rw [List.length_append]
    omega
noncomputable def allPl : List Qn := [.k [], .k [false], .k [true], .k [false, false], .k [false, true], .k [true, false], .k [true, true], .k [false, false, false], .k [false, false, true], .k [false, true, false], .k [false, true, true], .k [true, false, false], .k [true, false, true], .k [true, true, false], .k [true, true, true]]
theorem in_allPl : ∀ {p : List Bool}, p.length ≤ 3 → Qn.k p ∈ allPl
  | [], _ => by decide
  | [a], _ => by cases a <;> decide
  | [a, b], _ => by cases a <;> cases b <;> decide
  | [a, b, c], _ => by cases a <;> cases b <;> cases c <;> decide
  | _ :: _ :: _ :: _ :: _, h => by simp at h
theorem bld_size {N : Needs} {sn : Int} {st : Str} : ∀ (n : Nat) (p : List Bool), (bld N sn st n p).size + 1 ≤ 2 ^ (n + 1)
  | 0, _ => by show 1 + 1 ≤ 2; decide
  | n + 1, p => by
    have h1 := bld_size (N := N) (sn := sn) (st := st) n (p ++ [false])
    have h2 := bld_size (N := N) (sn := sn) (st := st) n (p ++ [true])
    have h3 : 2 ^ (n + 1 + 1) = 2 * 2 ^ (n + 1) := by rw [Nat.pow_succ]; omega
    have h4 : 1 ≤ 2 ^ (n + 1) := Nat.one_le_two_pow
    have one : ∀ v : Va, v.size = 1 → v.size + 1 ≤ 2 ^ (n + 1 + 1) := fun v h => by rw [h]; omega
    unfold bld
    split
    · rename_i a _
      exact one _ (by cases a <;> rfl)
    · split
      · split
        · show (bld N sn st n (p ++ [false])).size + (bld N sn st n (p ++ [true])).size + 1 + 1 ≤ _
          omega
        · split
          · exact one _ rfl
          · exact one _ rfl
      · exact one _ rfl
theorem build_size {N : Needs} {sn : Int} {st : Str} : (build N sn st 3 []).size ≤ 100000 := by
  have := bld_size (N := N) (sn := sn) (st := st) 4 []
  have e : (2 : Nat) ^ (4 + 1) = 32 := by decide
  show (bld N sn st 4 []).size ≤ 100000
  omega
structure Rn (rn : List Needs) : Prop where
  rns : Rns rn
  cl : RN rn
  pl : ∀ ns ∈ rn, ∀ q ∈ nkeys ns, q.pl.length ≤ 3
  few : ∀ ns ∈ rn, kindsOnly ns = true → ns.length ≤ 3
theorem few_row {rn : List Needs} (h : Rn rn) {ns : Needs} (hn : ns ∈ rn) (hk : kindsOnly ns = true) : Few ns := by
  refine ⟨(h.rns.2 ns hn).1, (h.rns.2 ns hn).2, fun n m => ?_⟩
  obtain ⟨q, a⟩ := n
  obtain ⟨p, rfl⟩ := kindsOnly_iff.mp hk q (in_nkeys m)
  obtain ⟨k, rfl⟩ := (h.cl ns hn).1.kd p a m
  exact ⟨p, k, rfl, h.pl ns hn _ (in_nkeys m)⟩
theorem row_of {rn : List Needs} {r : Rw} (hr : r ∈ rowsBeside rn []) : ∃ ns ∈ rn, kindsOnly ns = true ∧ r.ns = ns := by
  obtain ⟨i, _, e⟩ := List.mem_filterMap.mp ((upTo_sub _).subset hr)
  obtain ⟨ns, l, h1, h2, h3, rfl⟩ := besideRow_some e
  rw [beside_nil] at h2
  cases h2
  exact ⟨ns, List.mem_of_getElem? h1, h3, rfl⟩
theorem tot_le : ∀ {rs : List Rw}, (∀ r ∈ rs, r.ns.length ≤ 3) → tot rs ≤ 3 * rs.length
  | [], _ => Nat.le_refl _
  | r :: t, h => by
    rw [tot_cons, List.length_cons]
    have h1 := h r List.mem_cons_self
    have h2 := tot_le (rs := t) fun r hr => h r (List.mem_cons_of_mem _ hr)
    omega
theorem rows_len (rn : List Needs) : (rowsBeside rn []).length ≤ rn.length := by
  refine Nat.le_trans (upTo_sub _).length_le (Nat.le_trans (filterMap_len _ _) ?_)
  rw [List.length_range]
  exact Nat.le_refl _
theorem rds_rows {rn : List Needs} (h : Rn rn) : Rds (rowsBeside rn []) := by
  have R := (road_beside h.cl closed_nil).1
  refine ⟨Nat.le_trans (rows_len rn) (Nat.le_trans h.rns.1 (by decide)), fun r hr => ?_⟩
  obtain ⟨ns, hn, hk, e⟩ := row_of hr
  have few : Few r.ns := by rw [e]; exact few_row h hn hk
  exact ⟨few, Nat.le_trans (R.ok r hr).qlen (Nat.le_trans few.1 (by decide))⟩
theorem tot_rows {rn : List Needs} (h : Rn rn) : tot (rowsBeside rn []) < 151 := by
  have h1 := tot_le (rs := rowsBeside rn []) fun r hr => by
    obtain ⟨ns, hn, hk, e⟩ := row_of hr
    rw [e]
    exact h.few ns hn hk
  have h2 := rows_len rn
  have h3 := h.rns.1
  omega
theorem few_lets {rn : List Needs} {N : Needs} (h : Rn rn) (L : Lets [] (rowsBeside rn []) N) : Few N := by
  have hq : ∀ q ∈ nkeys N, ∃ p, q = Qn.k p ∧ p.length ≤ 3 := fun q hq => by
    obtain ⟨r, hr, hk⟩ := L.src q hq
    obtain ⟨ns, hn, hko, e⟩ := row_of hr
    rw [e] at hk
    obtain ⟨p, rfl⟩ := kindsOnly_iff.mp hko q hk
    exact ⟨p, rfl, h.pl ns hn _ hk⟩
  refine ⟨?_, L.nd, fun n m => ?_⟩
  · rw [← nkeys_len]
    have z := nodup_sub_len (m := allPl) L.nd fun q m => by
      obtain ⟨p, rfl, hp⟩ := hq q m
      exact in_allPl hp
    exact Nat.le_trans z (by decide)
  · obtain ⟨q, a⟩ := n
    obtain ⟨p, rfl, hp⟩ := hq q (in_nkeys m)
    obtain ⟨k, rfl⟩ := L.cl.kd p a (List.mem_append_left _ m)
    exact ⟨p, k, rfl, hp⟩
section
variable (P : Program) (w : World)
noncomputable def spPast (T1 T2 T3 : Addr) : Sp := fun vs H Q _ => ∃ (v : V) (l : Addr) (ys : List V) (rn : List Needs) (ds : Addr) (sn : Int) (st : Str), vs = [v, .ref l, .ref ds] ∧ NsIs P w H v [] ∧ H l = some (.lst ys) ∧ Nss P w H ys rn ∧ Rn rn ∧ H ds = some (.dK (strangeD sn st)) ∧ Strange rn sn st ∧ TabQ H T1 (TN.nm T1) ∧ TabQ H T2 (TN.nm T2) ∧ TabQ H T3 (TN.nm T3) ∧
  ∀ r H', Same H H' → ((r = .non ∧ ∀ x, ∃ (i : Nat) (ns : Needs), rn[i]? = some ns ∧ Fits x ns) ∨ ∃ x, r ≠ .non ∧ Is H' r (Va.d x) ∧ x.size ≤ 100000 ∧ ∀ (i : Nat) (ns : Needs), rn[i]? = some ns → ¬ Fits x ns) → Q r H'
end
theorem is_non {H : Hp} {v : V} {d : D} (h : Is H v d) : v ≠ .non := by cases h <;> exact fun z => nomatch z
theorem first_fits {x : Va} : ∀ {ss : List Sh} {s : Sh}, s ∈ ss → fit s x = true → first ss x ≠ none
  | a :: r, s, hs, hf => by
    show (if fit a x = true then _ else _) ≠ none
    by_cases e : fit a x = true
    · rw [if_pos e]; exact fun z => nomatch z
    · rw [if_neg e]
      rcases List.mem_cons.mp hs with z | z
      · rw [z] at hf; exact absurd hf e
      · intro z2
        exact first_fits z hf (Option.map_eq_none_iff.mp z2)
seal L2.PE L2.PA L2.PS L2.PSs L2.PT L2.PW L2.PG L2.PGs L2.PI
section
variable {P : Program} {w : World} {K : PySem.W.Frag} {mg : Str → Option Value} {base : Heap}
theorem sc_value_past : FnScope ["needs", "rows_needs", "strange", "found"] ["needs", "rows_needs", "strange"] (defScope s_value_past) := ⟨rfl, rfl, rfl, by decide +kernel, rfl, by decide +kernel, by decide +kernel⟩
theorem ok_past {T1 T2 T3 : Addr} (FN : FunAt K mg "value_past" s_value_past ["needs", "rows_needs", "strange"]) (B : Blt mg) (c_rows_beside : Callee P w K mg base 3 "rows_beside" ["rows_needs", "met"] (spRowsBeside P w)) (c_search_past : Callee P w K mg base 155 "search_past" ["rows"] (spSearch P w T2 T3 151)) (c_value_meeting : Callee P w K mg base 4 "value_meeting" ["needs", "strange"] (spMeet P w T1)) (c_needs_of_both : Callee P w K mg base 2 "needs_of_both" ["one", "two"] (spBoth P w)) : Callee P w K mg base 156 "value_past" ["needs", "rows_needs", "strange"] (spPast P w T1 T2 T3) := by
  refine FN.ok (k := 155) sc_value_past (fun vs H Q E h => ?_) (fun f cdv A outer s H vs Q E hr h => ?_)
  · obtain ⟨v, l, ys, rn, ds, sn, st, rfl, _⟩ := h
    rfl
  obtain ⟨v, l, ys, rn, ds, sn, st, rfl, hv, hl, hns, hrn, hds, hst, tab1, tab2, tab3, q⟩ := h
  refine ⟨_, ((pss_cons (ps_set (i := 3) sc_value_past.nd rfl (Or.inl rfl) (pe_callC c_search_past hr rfl (pa_cons (pe_callC c_rows_beside hr rfl (pa_cons (pv 1) (pa_cons (pv 0) pa_nil))) pa_nil)))
    (pss_cons (ps_if (pt_cmp (pc_isN (pe_ix ix_tup (pv 3) pe_int (fun _ _ => rfl))))
      (pss_one (ps_ret pe_non)) pss_nil)
    (pss_one (ps_ret (pe_callC c_value_meeting hr rfl (pa_cons (pe_callC c_needs_of_both hr rfl (pa_cons (pv 0) (pa_cons (pe_ix ix_tup (pv 3) pe_int (fun _ _ => rfl)) pa_nil))) (pa_cons (pv 2) pa_nil)))))))), ?_⟩
  have RK := road_beside hrn.cl closed_nil
  refine ⟨_, rfl, _, rfl, l, ys, rn, v, rfl, hl, hns, hrn.rns, hv, fun l1 ys1 H1 g1 hl1 e1 r1 => ?_⟩
  refine ⟨l1, ys1, _, [], rfl, e1, r1, rds_rows hrn, RK.1, RK.2, tot_rows hrn, g1.tab _ tab2, g1.tab _ tab3, fun r H2 g2 ⟨t, er, res⟩ => ?_⟩
  subst er
  have g12 := g1.trans g2
  rcases res with ⟨d1, x, N, ht, hd1, qd, L⟩ | ⟨d2, kvs2, ht, hd2, ed2, nums2, bl⟩
  · have few := few_lets hrn L
    refine ⟨_, rfl, t, _, _, _, rfl, rfl, SqT.of ht, rfl, _, rfl, iteF' rfl ?_⟩
    refine ⟨_, rfl, _, rfl, t, _, _, _, rfl, rfl, SqT.of ht, rfl, v, .ref d1, N, rfl, hv.mono g12, ⟨d1, rfl, qd⟩, few, fun r3 H3 g3 n3 => ?_⟩
    have g13 := g12.trans g3
    refine ⟨_, rfl, r3, ds, N, sn, st, rfl, n3, g13 _ _ hds, g13.tab _ tab1, few, fun r4 H4 g4 i4 => ?_⟩
    have ps := past_some (M := 3) hrn.cl L RK.2 (fun q hq => by
      obtain ⟨a, m⟩ := mem_nkeys.mp hq
      obtain ⟨p, k, e, hp⟩ := few.2.2 _ m
      rw [(Prod.mk.inj e).1]
      exact hp) hst
    exact q r4 H4 (g13.trans g4) (.inr ⟨_, is_non i4, i4, build_size, ps.2⟩)
  · refine ⟨_, rfl, t, _, _, _, rfl, rfl, SqT.of ht, rfl, _, rfl, iteT' rfl ?_⟩
    exact q .non H2 g12 (.inl ⟨rfl, fun x => past_none bl (fits_nil x)⟩)
theorem sc_unfit : FnScope ["rows", "rows_needs", "value"] ["rows"] (defScope s_unfit) := ⟨rfl, rfl, rfl, by decide +kernel, rfl, by decide +kernel, by decide +kernel⟩
theorem ok_unfit {T1 T2 T3 : Addr} (FN : FunAt K mg "unfit" s_unfit ["rows"]) (B : Blt mg) (c_needs_of : Callee P w K mg base 2 "needs_of" ["shape"] (spNeeds P w)) (c_strange_atoms : Callee P w K mg base 1 "strange_atoms" ["rows_needs"] (spStrange P w)) (c_value_past : Callee P w K mg base 156 "value_past" ["needs", "rows_needs", "strange"] (spPast P w T1 T2 T3)) : Callee P w K mg base 157 "unfit" ["rows"] (spUnfit2 T1 T2 T3) := by
  refine FN.ok (k := 156) sc_unfit (fun vs H Q E h => ?_) (fun f cdv A outer s H vs Q E hr h => ?_)
  · obtain ⟨⟨a, us, ss, rfl, _⟩, _⟩ := h
    rfl
  obtain ⟨⟨a, us, ss, rfl, ha, al, good, q⟩, tab1, tab2, tab3⟩ := h
  refine ⟨_, ((pss_cons (ps_setCompS (i := 1) sc_unfit.nd rfl (Or.inl rfl) rfl (pi_list (pv 0)) (cloS_of (defScope s_unfit).names ["rows", "rows_needs", "value"] rfl rfl (by decide +kernel) rfl) (fun cl C s₀ H₀ ex => (pe_callC c_needs_of hr rfl (pa_cons (pv 0) pa_nil))))
    (pss_cons (ps_set (i := 2) sc_unfit.nd rfl (Or.inl rfl) (pe_callC c_value_past hr rfl (pa_cons pe_qnew (pa_cons (pv 1) (pa_cons (pe_callC c_strange_atoms hr rfl (pa_cons (pv 1) pa_nil)) pa_nil)))))
    (pss_one (ps_ret (pe_ifExp (pt_cmp (pc_isN (pv 2))) (pe_lst pa_nil) (pe_lst (pa_cons (pv 2) pa_nil)))))))), ?_⟩
  have hl : us.length = ss.length := by rw [al.len, List.length_map]
  have h45 := good.1
  refine ⟨_, rfl, a, rfl, ⟨us, SqL.of ha⟩, comp_list (fun i ys H' => Same H H' ∧ Nss P w H' ys ((ss.take i).map fun s => needsOf s [])) (le_line (by omega)) ⟨Same.refl _, .nil⟩ (fun i ys H' z => SqL.of (z.1 _ _ ha)) (fun i x ys H' hx z => ?_) (fun ys H1 z hy lr hlr => ?_)⟩
  · obtain ⟨s', hs', his⟩ := al.mapGet hx
    have hb' := good.2 s' (List.mem_of_getElem? hs')
    refine ⟨_, rfl, x, s', rfl, his.mono z.1, by omega, fun r H6 g6 n6 => ⟨z.1.trans g6, ?_⟩⟩
    have et : ss.take (i + 1) = ss.take i ++ [s'] := by rw [List.take_add_one, hs']; rfl
    rw [et, List.map_append]
    exact prd_app (Nss.mono g6 z.2) (.cons n6 .nil)
  have hz := z.2
  rw [List.take_of_length_le (by omega)] at hz
  have g1 := z.1.trans (same_new hlr (.lst ys))
  have hz1 := Nss.mono (same_new hlr (.lst ys)) hz
  have e1 : upd H1 lr (.lst ys) lr = some (.lst ys) := upd_same
  generalize upd H1 lr (.lst ys) = H2 at g1 hz1 e1
  -- what is known of the needs
  have K1 : Rn (ss.map fun s => needsOf s []) := by
    have of : ∀ ns ∈ ss.map (fun s => needsOf s []), ∃ s, s ∈ ss ∧ ns = needsOf s [] ∧ s.size ≤ 3 := fun ns h => by
      obtain ⟨s, hs, e⟩ := List.mem_map.mp h
      exact ⟨s, hs, e.symm, (good.2 s hs).1⟩
    refine ⟨⟨by rw [List.length_map]; omega, fun ns h => ?_⟩, fun ns h => ?_, fun ns h q hq => ?_, fun ns h hk => ?_⟩
    · obtain ⟨s, hs, rfl, h3⟩ := of ns h
      have := needs_len s []
      exact ⟨by omega, needs_nd s []⟩
    · obtain ⟨s, hs, rfl, h3⟩ := of ns h
      exact ⟨closed_needs s, needs_nd s []⟩
    · obtain ⟨s, hs, rfl, h3⟩ := of ns h
      obtain ⟨a, m⟩ := mem_nkeys.mp hq
      have := needs_pl m
      simp at this
      omega
    · obtain ⟨s, hs, rfl, h3⟩ := of ns h
      exact Nat.le_trans (kinds_len hk) h3
  intro d0 ep0 hd0
  have g2 := same_new hd0 (dQ P w d0 ep0 [])
  refine ⟨_, rfl, _, rfl, lr, ys, _, rfl, g2 _ _ e1, Nss.mono g2 hz1, K1.rns, fun ds sn st H3 g3 hds eds hstr => ?_⟩
  have g23 := g2.trans g3
  have gA := g1.trans g23
  refine ⟨.ref d0, lr, ys, _, ds, sn, st, rfl, ⟨d0, rfl, ep0, [], g3 _ _ upd_same, rfl, fun x hx => by simp at hx⟩, g23 _ _ e1, Nss.mono g23 hz1, K1, eds, hstr, gA.tab _ tab1, gA.tab _ tab2, gA.tab _ tab3, fun r H4 g4 res => ?_⟩
  have gB := gA.trans g4
  rcases res with ⟨rfl, hall⟩ | ⟨x, hnn, ix, hsz, hno⟩
  · refine ⟨_, rfl, _, rfl, iteT' rfl ⟨lenOk rfl, fun l hlf => q l _ (gB.trans (same_new hlf _)) (.inl ⟨upd_same, fun x => ?_⟩)⟩⟩
    obtain ⟨i, ns, h1, h2⟩ := hall x
    rw [List.getElem?_map] at h1
    obtain ⟨s, hs, rfl⟩ := Option.map_eq_some_iff.mp h1
    exact first_fits (List.mem_of_getElem? hs) (fits_row.mpr h2)
  · refine ⟨_, rfl, _, rfl, iteF' ?_ ⟨_, rfl, lenOk rfl, fun l hlf => q l _ (gB.trans (same_new hlf _)) (.inr ⟨r, x, upd_same, ix.mono (same_new hlf _), hsz, ?_⟩)⟩⟩
    · cases r <;> first | rfl | exact absurd rfl hnn
    · refine first_none fun j s hs => ?_
      cases hf : fit s x with
      | false => rfl
      | true => exact absurd (fits_row.mp hf) (hno j _ (by rw [List.getElem?_map, hs]; rfl))
end
end ST
set_option Elab.async false
set_option linter.all false
set_option maxRecDepth 100000
set_option maxHeartbeats 4000000
namespace ST
variable [TN]
open PySem PySem.Spec PyProof.Rows L2
theorem inv_cancel {r p i m : Nat} (h : p * i % m = 1) (hr : r < m) : (r * p % m) * i % m = r := by
  rw [Nat.mul_mod, Nat.mod_mod, ← Nat.mul_mod, Nat.mul_assoc, Nat.mul_mod, h, Nat.mul_one, Nat.mod_mod, Nat.mod_eq_of_lt hr]
noncomputable def genH (m p1 p2 p5 a31 a33 a63 s1 s2 : Nat) (hs : List Int) : Int :=
  (fun acc : Nat => if acc == m - 1 then (s2 : Int) else if acc < a63 then (acc : Int) else (acc : Int) - m)
    (((hs.foldl (init := p5) fun acc h => (((acc + (h % (m : Int)).toNat * p2) % m * a31) % m + (acc + (h % (m : Int)).toNat * p2) % m / a33) * p1 % m) + (hs.length ^^^ (p5 ^^^ s1))) % m)
theorem genH_is (hs : List Int) : Builtin.Tuple.tupleHashOf hs = genH (2 ^ 64) 11400714785074694791 14029467366897019727 2870177450012600261 (2 ^ 31) (2 ^ 33) (2 ^ 63) 3527539 1546275796 hs := by
  unfold Builtin.Tuple.tupleHashOf genH
  rfl
noncomputable def stepG (m p1 p2 a31 a33 acc y : Nat) : Nat := (((acc + y * p2) % m * a31) % m + (acc + y * p2) % m / a33) * p1 % m
noncomputable def outG (m a63 s2 acc : Nat) : Int := if acc == m - 1 then (s2 : Int) else if acc < a63 then (acc : Int) else (acc : Int) - m
noncomputable def y1 (m : Nat) (h : Int) : Nat := (h % (m : Int)).toNat
theorem gen2 (m p1 p2 p5 a31 a33 a63 s1 s2 : Nat) (x y : Int) : genH m p1 p2 p5 a31 a33 a63 s1 s2 [x, y] = outG m a63 s2 ((stepG m p1 p2 a31 a33 (stepG m p1 p2 a31 a33 p5 (y1 m x)) (y1 m y) + (2 ^^^ (p5 ^^^ s1))) % m) := rfl
noncomputable abbrev stepH (m acc y : Nat) : Nat := stepG m 11400714785074694791 14029467366897019727 (2 ^ 31) (2 ^ 33) acc y
noncomputable abbrev outH (m acc : Nat) : Int := outG m (2 ^ 63) 1546275796 acc
noncomputable def kK : Nat := 2 ^^^ (2870177450012600261 ^^^ 3527539)
theorem hash2 (x y : Int) : Builtin.Tuple.tupleHashOf [x, y] = outH (2 ^ 64) ((stepH (2 ^ 64) (stepH (2 ^ 64) 2870177450012600261 (y1 (2 ^ 64) x)) (y1 (2 ^ 64) y) + kK) % 2 ^ 64) := by
  rw [genH_is, gen2]
  unfold kK
  rfl
theorem e64 : (2 : Nat) ^ 64 = 18446744073709551616 := by decide
theorem e63 : (2 : Nat) ^ 63 = 9223372036854775808 := by decide
theorem e31 : (2 : Nat) ^ 31 = 2147483648 := by decide
theorem e33 : (2 : Nat) ^ 33 = 8589934592 := by decide
theorem y1_lt (h : Int) : y1 18446744073709551616 h < 18446744073709551616 := by
  unfold y1
  have h1 := Int.emod_nonneg h (show ((18446744073709551616 : Nat) : Int) ≠ 0 by decide)
  have h2 := Int.emod_lt_of_pos h (show (0 : Int) < ((18446744073709551616 : Nat) : Int) by decide)
  omega
noncomputable def backH (fin : Nat) : Nat := (((fin + (18446744073709551616 - kK)) % 18446744073709551616 * 614540362697595703 % 18446744073709551616) / 2147483648 + (((fin + (18446744073709551616 - kK)) % 18446744073709551616 * 614540362697595703 % 18446744073709551616) % 2147483648) * 8589934592) * 839798700976720815 % 18446744073709551616
theorem kK_lt : kK < 18446744073709551616 := by decide +kernel
theorem back_fin (acc y : Nat) : backH ((stepH 18446744073709551616 acc y + kK) % 18446744073709551616) = (acc * 839798700976720815 + y) % 18446744073709551616 := by
  unfold backH stepH stepG
  rw [e31, e33]
  have ha : (acc + y * 14029467366897019727) % 18446744073709551616 < 18446744073709551616 := Nat.mod_lt _ (by decide)
  have e0 : (acc + y * 14029467366897019727) % 18446744073709551616 * 839798700976720815 % 18446744073709551616 = (acc * 839798700976720815 + y) % 18446744073709551616 := by
    rw [Nat.mul_mod, Nat.mod_mod, ← Nat.mul_mod, Nat.add_mul, Nat.add_mod]
    have : y * 14029467366897019727 * 839798700976720815 % 18446744073709551616 = y % 18446744073709551616 := by
      rw [Nat.mul_assoc, Nat.mul_mod, show 14029467366897019727 * 839798700976720815 % 18446744073709551616 = 1 by decide +kernel, Nat.mul_one, Nat.mod_mod]
    rw [this, ← Nat.add_mod]
  rw [← e0]
  generalize (acc + y * 14029467366897019727) % 18446744073709551616 = a at ha
  have em : (a * 2147483648) % 18446744073709551616 = (a % 8589934592) * 2147483648 := Nat.mul_mod_mul_right 2147483648 a 8589934592
  rw [em]
  have hd := Nat.div_add_mod a 8589934592
  have hlo : a % 8589934592 < 8589934592 := Nat.mod_lt _ (by decide)
  have hhi : a / 8589934592 < 2147483648 := by omega
  generalize a % 8589934592 = lo at hd hlo
  generalize a / 8589934592 = hi at hd hhi
  have hr : lo * 2147483648 + hi < 18446744073709551616 := by omega
  have hz : ∀ z, z < 18446744073709551616 → ((z + kK) % 18446744073709551616 + (18446744073709551616 - kK)) % 18446744073709551616 = z := fun z hz => by
    have h2 := kK_lt
    generalize kK = kk at h2
    omega
  rw [hz _ (Nat.mod_lt _ (by decide)), inv_cancel (show 11400714785074694791 * 614540362697595703 % 18446744073709551616 = 1 by decide +kernel) hr]
  have hb : (lo * 2147483648 + hi) / 2147483648 + (lo * 2147483648 + hi) % 2147483648 * 8589934592 = a := by omega
  rw [hb]
theorem out_cases {a : Nat} (ha : a < 18446744073709551616) : (a = 18446744073709551615 ∧ outH 18446744073709551616 a = 1546275796) ∨ (a < 9223372036854775808 ∧ outH 18446744073709551616 a = (a : Int)) ∨ (9223372036854775808 ≤ a ∧ a < 18446744073709551615 ∧ outH 18446744073709551616 a = (a : Int) - 18446744073709551616) := by
  unfold outH outG
  rw [e63]
  by_cases c1 : a = 18446744073709551615
  · left; exact ⟨c1, if_pos (by rw [c1]; rfl)⟩
  · right
    have c2 : ¬ (a == 18446744073709551616 - 1) = true := fun z => c1 (by simpa using z)
    rw [if_neg c2]
    by_cases c3 : a < 9223372036854775808
    · left; exact ⟨c3, if_pos c3⟩
    · right; exact ⟨by omega, by omega, if_neg c3⟩
theorem out_inj {a b : Nat} (ha : a < 18446744073709551616) (hb : b < 18446744073709551616) (h : outH 18446744073709551616 a = outH 18446744073709551616 b) : a = b ∨ (a = 18446744073709551615 ∧ b = 1546275796) ∨ (b = 18446744073709551615 ∧ a = 1546275796) := by
  rcases out_cases ha with ⟨a1, a2⟩ | ⟨a1, a2⟩ | ⟨a1, a3, a2⟩ <;> rcases out_cases hb with ⟨b1, b2⟩ | ⟨b1, b2⟩ | ⟨b1, b3, b2⟩ <;> omega
theorem reduce_out {a : Nat} (ha : a < 18446744073709551616) : reduceHash (outH 18446744073709551616 a) = outH 18446744073709551616 a := by
  have h : -(2 ^ 63 : Int) ≤ outH 18446744073709551616 a ∧ outH 18446744073709551616 a < 2 ^ 63 ∧ outH 18446744073709551616 a ≠ -1 := by
    have e : (2 : Int) ^ 63 = 9223372036854775808 := by decide
    rw [e]
    rcases out_cases ha with ⟨a1, a2⟩ | ⟨a1, a2⟩ | ⟨a1, a3, a2⟩ <;> omega
  unfold reduceHash
  rw [if_pos (by simpa using ⟨h.1, h.2.1⟩), if_neg (by simpa using h.2.2)]
noncomputable def plI (p : List Bool) : Int := reduceHash (Builtin.Tuple.tupleHashOf ((p.map bitI).map hashInt))
noncomputable def allP : List (List Bool) := [[], [false], [true], [false, false], [false, true], [true, false], [true, true], [false, false, false], [false, false, true], [false, true, false], [false, true, true], [true, false, false], [true, false, true], [true, true, false], [true, true, true]]
theorem in_allP : ∀ {p : List Bool}, p.length ≤ 3 → p ∈ allP
  | [], _ => by decide
  | [a], _ => by cases a <;> decide
  | [a, b], _ => by cases a <;> cases b <;> decide
  | [a, b, c], _ => by cases a <;> cases b <;> cases c <;> decide
  | _ :: _ :: _ :: _ :: _, h => by simp at h
noncomputable def apartB : Bool := allP.all fun p => allP.all fun p' => decide (p = p') || (decide (y1 18446744073709551616 (plI p) ≠ y1 18446744073709551616 (plI p')) && decide ((backH 1546275796 + y1 18446744073709551616 (plI p)) % 18446744073709551616 ≠ (backH 18446744073709551615 + y1 18446744073709551616 (plI p')) % 18446744073709551616))
theorem apart_ok : apartB = true := by decide +kernel
theorem apart_at {p p' : List Bool} (hp : p.length ≤ 3) (hp' : p'.length ≤ 3) (hne : p ≠ p') : y1 18446744073709551616 (plI p) ≠ y1 18446744073709551616 (plI p') ∧ (backH 1546275796 + y1 18446744073709551616 (plI p)) % 18446744073709551616 ≠ (backH 18446744073709551615 + y1 18446744073709551616 (plI p')) % 18446744073709551616 := by
  have h := apart_ok
  unfold apartB at h
  rw [List.all_eq_true] at h
  have h1 := h p (in_allP hp)
  rw [List.all_eq_true] at h1
  have h2 := h1 p' (in_allP hp')
  simp only [Bool.or_eq_true, Bool.and_eq_true, decide_eq_true_eq] at h2
  exact h2.resolve_left hne
theorem tuple_apart {x : Int} {p p' : List Bool} (hp : p.length ≤ 3) (hp' : p'.length ≤ 3) (hne : p ≠ p') : reduceHash (Builtin.Tuple.tupleHashOf [x, plI p]) ≠ reduceHash (Builtin.Tuple.tupleHashOf [x, plI p']) := by
  intro h
  rw [hash2, hash2, e64] at h
  generalize stepH 18446744073709551616 2870177450012600261 (y1 18446744073709551616 x) = acc at h
  have l1 : (stepH 18446744073709551616 acc (y1 18446744073709551616 (plI p)) + kK) % 18446744073709551616 < 18446744073709551616 := Nat.mod_lt _ (by decide)
  have l2 : (stepH 18446744073709551616 acc (y1 18446744073709551616 (plI p')) + kK) % 18446744073709551616 < 18446744073709551616 := Nat.mod_lt _ (by decide)
  rw [reduce_out l1, reduce_out l2] at h
  have b1 := back_fin acc (y1 18446744073709551616 (plI p))
  have b2 := back_fin acc (y1 18446744073709551616 (plI p'))
  have y1l := y1_lt (plI p)
  have y2l := y1_lt (plI p')
  obtain ⟨ap1, ap2⟩ := apart_at hp hp' hne
  obtain ⟨_, ap3⟩ := apart_at hp' hp (fun z => hne z.symm)
  rcases out_inj l1 l2 h with e | ⟨e1, e2⟩ | ⟨e1, e2⟩
  · rw [e, b2] at b1
    generalize y1 18446744073709551616 (plI p) = u at *
    generalize y1 18446744073709551616 (plI p') = v at *
    generalize acc * 839798700976720815 = d at *
    omega
  · rw [e1] at b1
    rw [e2] at b2
    rw [b1, b2] at ap2
    generalize y1 18446744073709551616 (plI p) = u at *
    generalize y1 18446744073709551616 (plI p') = v at *
    generalize acc * 839798700976720815 = d at *
    omega
  · rw [e2] at b1
    rw [e1] at b2
    rw [b1, b2] at ap3
    generalize y1 18446744073709551616 (plI p) = u at *
    generalize y1 18446744073709551616 (plI p') = v at *
    generalize acc * 839798700976720815 = d at *
    omega
theorem apart_all (P : Program) (w : World) : ∀ xs : List (Qn × Addr × V), (xs.map (·.1)).Nodup → (∀ x ∈ xs, ∃ p, x.1 = Qn.k p ∧ p.length ≤ 3) → Apart P w xs
  | [], _, _ => List.nodup_nil
  | x :: t, hn, hs => by
    unfold Apart
    rw [List.map_cons, List.nodup_cons] at *
    refine ⟨fun m => ?_, apart_all P w t hn.2 fun y hy => hs y (List.mem_cons_of_mem _ hy)⟩
    obtain ⟨y, hy, e⟩ := List.mem_map.mp m
    obtain ⟨p, ep, hp⟩ := hs x List.mem_cons_self
    obtain ⟨p', ep', hp'⟩ := hs y (List.mem_cons_of_mem _ hy)
    have hne : p ≠ p' := fun z => hn.1 (List.mem_map.mpr ⟨y, hy, by rw [ep', ep, z]⟩)
    rw [ep, ep'] at e
    exact tuple_apart (x := hashStr w "kind") hp hp' hne e.symm
end ST
set_option Elab.async false
set_option linter.all false
set_option maxRecDepth 100000
set_option maxHeartbeats 4000000
namespace ST
open PySem PySem.Spec PyProof.Rows L2
theorem law_callT {P : Program} {w : World} {K : PySem.W.Frag} {mg mb : Str → Option Value} {k : Nat} {fa a : Addr} {fd : FuncData} {x : Str} {sp : Sp} {s₁ : Shared} {vs : List Value} {ns : List Int} {ts : List (Addr × Addr)}
    (KX : K.In s₁.heap) (hns : s₁.heap.Ns mainGlobals mg) (hb : s₁.heap.Ns builtinsNs mb) (hbb : ∀ x : Str, x ≠ "__name__" → mb x = bootBuiltins x) (hlim : s₁.heap.NoLimit) (hg : s₁.gens = #[])
    (hbm : ∃ bm ob, mg "__builtins__" = some (.ref bm) ∧ bm ≠ builtinsNs ∧ s₁.heap.get? bm = some ob ∧ ob.cls = .type "module" ∧ ob.dict = some builtinsNs ∧ ob.data = .plain)
    (hT : ∀ q ∈ ts, PySem.W.codeHdIn K q.1 q.2 = true ∧ K.lookup q.2 = none ∧ s₁.heap.get? q.2 = some (PySem.W.tabObj #[]))
    (ha : s₁.heap.get? a = some { cls := .type "list", data := .seq vs.toArray }) (hi : IntsAre vs ns) (hl : ns.length ≤ sizeLine) (hr : Room k callerA)
    (F : ∀ base : Heap, K.In base → base.Ns mainGlobals mg → BmAt mg base → FnOk P w K mg base CX0 k fa fd [x] sp) (hbind : ∀ (s : Shared) (u : Value), BindsTo s fd ⟨[u], []⟩ [(x, u)])
    (hsp : ∀ H : Hp, SqL K H a (ns.map V.int) → (∀ q ∈ ts, H q.2 = some (.tbl #[])) → sp [.ref a] H (fun v _ => v = .bl true) fun _ _ _ => False) :
    codeAny (model P w) callerA (.call (.ref fa) ⟨[.ref a], []⟩) (fun r s' => r = .ok (.ret (.bool true)) ∧ OldK s₁.heap s'.heap ∧ s'.os = s₁.os ∧ AllBare s'.gens) s₁ := by
  have rv := vals_ints hi
  have lenV := hi.length
  have aT : a ∉ ts.map (·.2) := fun m => by
    obtain ⟨q, hq, e⟩ := List.mem_map.mp m
    have z := (hT q hq).2.2
    rw [e, ha] at z
    have z2 := congrArg Obj.cls (Option.some.inj z)
    cases z2
  have tabAt : ∀ b, b ∈ ts.map (·.2) → s₁.heap.get? b = some (PySem.W.tabObj #[]) ∧ K.lookup b = none ∧ isCodeTable s₁.heap b := fun b m => by
    obtain ⟨q, hq, rfl⟩ := List.mem_map.mp m
    obtain ⟨h1, h2, h3⟩ := hT q hq
    exact ⟨h3, h2, ((PySem.W.codeHd_of_K KX h1).tab h3).isCodeTable⟩
  -- from an abstract heap in which the tables are tracked, and the script where the module does not hold it
  have core : ∀ H : Hp, SqL K H a (ns.map V.int) → HOk P w H s₁.heap → (∀ b, H b = none ∨ (b = a ∧ K.lookup a = none ∧ ∃ o xs, H b = some (.frz o (.lst xs))) ∨ (b ∈ ts.map (·.2) ∧ H b = some (.tbl #[]))) → (∀ q ∈ ts, H q.2 = some (.tbl #[])) →
      codeAny (model P w) callerA (.call (.ref fa) ⟨[.ref a], []⟩) (fun r s' => r = .ok (.ret (.bool true)) ∧ OldK s₁.heap s'.heap ∧ s'.os = s₁.os ∧ AllBare s'.gens) s₁ := by
    intro H hS hok hA hTab
    have base_of : ∀ {b : Addr} {o : Obj}, s₁.heap.get? b = some o → H b = none → (hidT s₁.heap H).get? b = some o := fun e n => hidT_get e n
    -- what is no list and no table is not tracked
    have notT : ∀ {b : Addr} {o : Obj}, s₁.heap.get? b = some o → (∀ xs n, o.data ≠ .seq xs n) → (∀ xs, o.data ≠ .fields xs) → H b = none := fun {b o} e n1 n2 => by
      rcases hA b with z | ⟨rfl, _⟩ | ⟨m, _⟩
      · exact z
      · rw [ha] at e; cases e
        exact absurd rfl (n1 _ _)
      · rw [(tabAt b m).1] at e; cases e
        exact absurd rfl (n2 _)
    have nsK : ∀ {b : Addr} {m : Str → Option Value}, s₁.heap.Ns b m → (hidT s₁.heap H).Ns b m := fun {b m} ⟨o, es, ep, e, d, r⟩ => ⟨o, es, ep, base_of e (notT e (fun xs n z => by rw [d] at z; cases z) (fun xs z => by rw [d] at z; cases z)), d, r⟩
    have hKb : K.In (hidT s₁.heap H) := fun b o e => base_of (KX b o e) (by
      rcases hA b with z | ⟨rfl, hk, _⟩ | ⟨m, _⟩
      · exact z
      · rw [hk] at e; cases e
      · rw [(tabAt b m).2.1] at e; cases e)
    have hbmB : BmAt mg (hidT s₁.heap H) := by
      obtain ⟨bm, ob, b1, b2, b3, b4, b5, b6⟩ := hbm
      obtain ⟨o, es, ep, e, d, _⟩ := hns
      refine ⟨bm, ob, b1, b2, fun z => ?_, base_of b3 (notT b3 (fun xs n z => by rw [b6] at z; cases z) (fun xs z => by rw [b6] at z; cases z)), b4, b5, b6⟩
      rw [z, e] at b3
      cases b3
      rw [d] at b6
      cases b6
    have hM : Mod K mg (hidT s₁.heap H) := ⟨hKb, nsK hns, ⟨mb, nsK hb, hbb⟩, let ⟨mc, h1, h2⟩ := hlim; ⟨mc, nsK h1, h2⟩⟩
    have e0 : Env0 P w K mg (hidT s₁.heap H) callerA [] s₁ H := ⟨rfl, hM, fun b o e => of_hidT e, Nat.le_of_eq (hidT_size _ _), trivial, fun b hb => absurd (show b ∈ ([] : List Addr) from hb) (by simp), hok, .of_eq hg⟩
    refine codeAny_mono ((F _ hKb (nsK hns) hbmB).run callerA [] s₁ H ⟨[.ref a], []⟩ [.ref a] [.ref a] _ _ hr e0 (hbind s₁ (.ref a)) (.cons rfl .nil) (hsp H hS hTab)) fun r s' h => ?_
    cases r with
    | error e => exact (show False from h).elim
    | ok fl =>
      cases fl with
      | next => exact False.elim h
      | brk => exact False.elim h
      | cont => exact False.elim h
      | ret u =>
        obtain ⟨v, H', os, bare, un, hok', r', q⟩ := h
        have q' : v = .bl true := q
        subst q'
        obtain rfl : u = Value.bool true := r'
        have each : ∀ b o, s₁.heap.get? b = some o → asItWas s₁.heap s'.heap b o := fun b o e => by
          rcases hA b with z | ⟨_, _, ob, xs, z⟩ | ⟨m, z⟩
          · exact .inl (un.keep b o e z (by intro z; exact absurd (show b ∈ ([] : List Addr) from z) (by simp)) (by simp))
          · have z2 := un.frzs b ob _ z
            obtain ⟨e1, _⟩ := hok b _ z
            obtain ⟨e2, _⟩ := hok' b _ z2
            rw [e] at e1; cases e1
            exact .inl e2
          · obtain ⟨more, z2⟩ := un.tbls b _ z
            have e2 := hok' b _ z2
            obtain ⟨e1, _, ct⟩ := tabAt b m
            rw [e] at e1; cases e1
            exact .inr (.inl ⟨ct, rfl, #[], more, rfl, e2⟩)
        refine ⟨rfl, ⟨each, fun b o e => ?_⟩, os, bare⟩
        rcases hA b with z | ⟨_, _, ob, xs, z⟩ | ⟨m, z⟩
        · exact ⟨o, un.keep b o e z (by intro z; exact absurd (show b ∈ ([] : List Addr) from z) (by simp)) (by simp)⟩
        · have z2 := un.frzs b ob _ z
          obtain ⟨e2, _⟩ := hok' b _ z2
          exact ⟨_, e2⟩
        · obtain ⟨more, z2⟩ := un.tbls b _ z
          exact ⟨_, hok' b _ z2⟩
  have tblOk : ∀ (H : Hp) b, b ∈ ts.map (·.2) → ObjOk P w H s₁.heap b (.tbl #[]) := fun H b m => (tabAt b m).1
  cases hk : K.lookup a with
  | some o =>
    have e := KX a o hk
    rw [ha] at e
    cases e
    refine core (fun b => if b ∈ ts.map (·.2) then some (.tbl #[]) else none) (.inr ⟨_, vs.toArray, _, hk, rfl, rfl, rfl, by rw [List.size_toArray, lenV]; exact hl, by simpa using rv⟩) (fun b u z => ?_) (fun b => ?_) fun q hq => if_pos (List.mem_map_of_mem hq)
    · by_cases m : b ∈ ts.map (·.2)
      · have z' := (if_pos m).symm.trans z
        cases z'
        exact tblOk _ b m
      · have z' := (if_neg m).symm.trans z
        cases z'
    · by_cases m : b ∈ ts.map (·.2)
      · exact .inr (.inr ⟨m, if_pos m⟩)
      · exact .inl (if_neg m)
  | none =>
    refine core (fun b => if b ∈ ts.map (·.2) then some (.tbl #[]) else if b = a then some (.frz { cls := .type "list", data := .seq vs.toArray } (.lst (ns.map V.int))) else none) (.inl (.inr ⟨{ cls := .type "list", data := .seq vs.toArray }, (if_neg aT).trans (if_pos rfl)⟩)) (fun b u z => ?_) (fun b => ?_) fun q hq => if_pos (List.mem_map_of_mem hq)
    · by_cases m : b ∈ ts.map (·.2)
      · have z' := (if_pos m).symm.trans z
        cases z'
        exact tblOk _ b m
      · have z' := (if_neg m).symm.trans z
        by_cases hb : b = a
        · have z2 := (if_pos hb).symm.trans z'
          cases z2
          subst hb
          exact ⟨ha, by rw [List.length_map]; exact hl, vs, _, rv, ha⟩
        · have z2 := (if_neg hb).symm.trans z'
          cases z2
    · by_cases m : b ∈ ts.map (·.2)
      · exact .inr (.inr ⟨m, if_pos m⟩)
      · by_cases hb : b = a
        · exact .inr (.inl ⟨hb, hk, _, _, (if_neg m).trans (if_pos hb)⟩)
        · exact .inl ((if_neg m).trans (if_neg hb))
theorem walk_ofT {l : PySem.W.OpenLaw} {n k : Nat} {q : Program} {loose : List Str} {XP : (Str → Option Value) → Heap → Prop} {YP : World → Heap → Prop} {d : DefRec} {K : Params → PySem.W.Frag} {sp : PySem.W.Frag → Sp} {x : Str} (ts : List (Addr × Addr))
    (hn : l.most = some n) (hn2 : n ≤ sizeLine) (hdf : d.params.defaults = []) (hr : Room k callerA)
    (hY : ∀ (w : World) (h : Heap), YP w h → (K w.params).In h) (hYt : ∀ (w : World) (h : Heap), YP w h → ∀ q ∈ ts, h.get? q.2 = some (PySem.W.tabObj #[]))
    (hK : ∀ w : World, ∀ q ∈ ts, PySem.W.codeHdIn (K w.params) q.1 q.2 = true ∧ (K w.params).lookup q.2 = none)
    (F : ∀ (w : World) (mg : Str → Option Value) (fa : Addr) (h : Heap), (K w.params).In h → h.Ns mainGlobals mg → mg d.name = some (.ref fa) →
      ∃ fd : FuncData, (∀ (s : Shared) (u : Value), BindsTo s fd ⟨[u], []⟩ [(x, u)]) ∧
        ∀ base : Heap, (K w.params).In base → base.Ns mainGlobals mg → BmAt mg base → FnOk l.prog w (K w.params) mg base CX0 k fa fd [x] (sp (K w.params)))
    (hsp : ∀ (K : PySem.W.Frag) (H : Hp) (a : Addr) (ns : List Int), ns.length ≤ n → SqL K H a (ns.map V.int) → (∀ q ∈ ts, H q.2 = some (.tbl #[])) → sp K [.ref a] H (fun v _ => v = .bl true) fun _ _ _ => False) :
    PySem.W.WalkO q loose XP YP l.row.toRowW d [] (fun f vs => PySem.call f vs) := by
  refine Att.attach_call hn hdf fun w s₀ s₁ mg mb fa o pm cd doc a vs ns G Y ho hd hcd hmg hobj hints hlen hg => ?_
  have KX := hY w _ Y
  obtain ⟨fd, hb, hF⟩ := F w mg fa _ KX G.T.g hmg
  exact law_callT KX G.T.g G.T.b G.T.builtins G.T.nolimit hg G.T.bmain (fun q hq => ⟨(hK w q hq).1, (hK w q hq).2, hYt w _ Y q hq⟩) hobj hints (Nat.le_trans hlen hn2) hr hF hb (fun H hS hTb => hsp _ H a ns hlen hS hTb)
theorem tabQ_nil [TN] {H : Hp} {T : Addr} (h : H T = some (.tbl #[])) : TabQ H T (TN.nm T) := ⟨#[], h, trivial, fun pos cv z => by simp [codeAmong] at z⟩
end ST
set_option Elab.async false
set_option linter.all false
set_option maxRecDepth 100000
set_option maxHeartbeats 4000000
namespace ST
variable [TN]
open PySem L2
seal L2.PE L2.PA L2.PS L2.PSs L2.PT L2.PW L2.PG L2.PGs L2.PI
section
variable {P : Program} {w : World} {K : PySem.W.Frag} {mg : Str → Option Value} {base : Heap} {f g : Addr} {fd gd : FuncData}
theorem scAt : FnScope ["_law_script", "_law_k"] ["_law_script", "_law_k"] (defScope sAt) := ⟨rfl, rfl, rfl, by decide +kernel, rfl, by decide +kernel, by decide +kernel⟩
theorem ok_at (FN : Fun K "_law_at" "_law_at" sAt f fd) (ml : mg "len" = none) : FnOk P w K mg base CX0 1 f fd ["_law_script", "_law_k"] (spAt K) := by
  refine FN.ok scAt (fun vs H Q E h => ?_) (fun cdv A outer s H vs Q E hr h => ?_)
  · obtain ⟨a, ns, k, rfl, _⟩ := h
    rfl
  obtain ⟨a, ns, k, rfl, hS, h63, q⟩ := h
  have hu := hr.units0
  refine ⟨_, pss_cons (ps_if (pt_cmpR (op_eqNil hu) (pv 0) (pe_lst pa_nil) (nomark _)) (pss_one (ps_ret pe_int)) pss_nil)
    (pss_one (ps_ret (pe_op op_add (pe_ix ix_list (pv 0) (pe_op op_mod (pv 1) (pe_callB call_len_seq rfl ml PySem.boot_len (pa_cons (pv 0) pa_nil))) (fun _ _ => rfl))
      (pe_op op_mul pe_int (pe_op op_fdiv (pv 1) (pe_callB call_len_seq rfl ml PySem.boot_len (pa_cons (pv 0) pa_nil))))))), ?_⟩
  refine ⟨_, rfl, lenOk rfl, fun l hl => ?_⟩
  have g1 : Same H (upd H l (.lst [])) := same_new hl _
  have hS1 := g1.seq hS
  refine ⟨a, l, _, rfl, rfl, hS1, SqL.of upd_same, _, rfl, iteB (fun c => q _ _ g1) (fun c => ?_)⟩
  have hpos : 0 < ns.length := by
    cases ns with
    | nil => exact absurd c (by decide)
    | cons n r => exact Nat.succ_pos _
  have hl1 : (ns.map V.int).length = ns.length := List.length_map _
  have hm : (0 : Int) < (((ns.map V.int).length : Nat) : Int) := by rw [hl1]; omega
  obtain ⟨n, hn⟩ := int_at (ns := ns) (i := k % (((ns.map V.int).length : Nat) : Int)) (Int.emod_nonneg _ (by omega)) (by
    have := Int.emod_lt_of_pos k hm
    rw [hl1] at this ⊢
    exact this)
  refine ⟨_, rfl, _, rfl, _, rfl, a, _, rfl, .inl hS1, _, _, rfl, rfl, hm, a, _, _, _, rfl, rfl, hS1, hn, ?_⟩
  refine ⟨_, rfl, _, rfl, a, _, rfl, .inl hS1, _, _, rfl, rfl, ⟨hm, by rw [hl1]; omega⟩, _, _, rfl, rfl, .inl ⟨by decide, by decide⟩, _, _, rfl, rfl, q _ _ g1⟩
end
end ST
set_option Elab.async false
set_option linter.all false
set_option maxRecDepth 100000
set_option maxHeartbeats 4000000
namespace ST
variable [TN]
open PySem PySem.Spec PyProof.Rows L2
theorem FunAt.callee {P : Program} {w : World} {K : PySem.W.Frag} {mg : Str → Option Value} {base : Heap} {x : Str} {st : Stmt} {ps : List Str} {k : Nat} {sp : Sp} (F : FunAt K mg x st ps) (h : ∀ f fd, Fun K x x st f fd → Binds K fd ps [] → mg x = some (.ref f) → FnOk P w K mg base CX0 k f fd ps sp) : Callee P w K mg base k x ps sp := by
  obtain ⟨f, fd, F, b, m⟩ := F
  exact ⟨f, fd, h f fd F b m, b, F.kp, m⟩
theorem all_ok {P : Program} {w : World} {K : PySem.W.Frag} {mg : Str → Option Value} {base : Heap} {T1 T2 T3 kk : Addr} (B : Blt mg) (KN : Kns K mg kk) (BM : BmAt mg base)
    (N1 : (("value_meeting" : Str) ++ ".<locals>.") ++ "<lambda>" = TN.nm T1) (N2 : (("weightiest_question" : Str) ++ ".<locals>.") ++ "<lambda>" = TN.nm T2) (N3 : (("words_by_weight" : Str) ++ ".<locals>.") ++ "<lambda>" = TN.nm T3)
    (F_kind_of : FunAt K mg "kind_of" sKind ["value"])
    (F_is_shape_outside : FunAt K mg "is_shape_outside" s_is_shape_outside ["shape"])
    (F_needs_of : FunAt K mg "needs_of" s_needs_of ["shape"])
    (F_question_ahead : FunAt K mg "question_ahead" s_question_ahead ["question"])
    (F_questions_behind : FunAt K mg "questions_behind" s_questions_behind ["question", "answer"])
    (F_row_on_road : FunAt K mg "row_on_road" s_row_on_road ["number", "needs"])
    (F_row_after : FunAt K mg "row_after" s_row_after ["row", "question", "answer"])
    (F_up_to_settled : FunAt K mg "up_to_settled" s_up_to_settled ["rows"])
    (F_rows_after : FunAt K mg "rows_after" s_rows_after ["rows", "question", "answer"])
    (F_strange_atoms : FunAt K mg "strange_atoms" s_strange_atoms ["rows_needs"])
    (F_value_meeting : FunL K mg "value_meeting" s_value_meeting ["needs", "strange"] T1)
    (F_needs_beside : FunAt K mg "needs_beside" s_needs_beside ["needs", "met"])
    (F_needs_of_both : FunAt K mg "needs_of_both" s_needs_of_both ["one", "two"])
    (F_may_be_fit : FunAt K mg "may_be_fit" s_may_be_fit ["left"])
    (F_rows_beside : FunAt K mg "rows_beside" s_rows_beside ["rows_needs", "met"])
    (F_weights_of : FunAt K mg "weights_of" s_weights_of ["rows"])
    (F_weightiest_question : FunL K mg "weightiest_question" s_weightiest_question ["rows"] T2)
    (F_words_by_weight : FunL K mg "words_by_weight" s_words_by_weight ["rows", "question"] T3)
    (F_search_past : FunAt K mg "search_past" s_search_past ["rows"])
    (F_value_past : FunAt K mg "value_past" s_value_past ["needs", "rows_needs", "strange"])
    (F_unfit : FunAt K mg "unfit" s_unfit ["rows"])
    (F__law_whole : FunAt K mg "_law_whole" sWhole ["_law_found"])
    (F__law_at : FunAt K mg "_law_at" sAt ["_law_script", "_law_k"])
    (F__law_same : FunAt K mg "_law_same" sSame ["_law_found", "_law_due"])
    (F__law_kind_of : FunAt K mg "_law_kind_of" sLKind ["_law_value"])
    (F__law_fit : FunAt K mg "_law_fit" sLFit ["_law_shape", "_law_value"])
    (F__law_first_of : FunAt K mg "_law_first_of" sFirst ["_law_rows", "_law_value"])
    (F__law_leaf_by : FunAt K mg "_law_leaf_by" sLeaf ["_law_cell"])
    (F__law_flat_by : FunAt K mg "_law_flat_by" sFlat ["_law_cell", "_law_near"])
    (F__law_flat_rows : FunAt K mg "_law_flat_rows" sFlatRows ["_law_cells"])
    (F__law_all_values : FunAt K mg "_law_all_values" sAllV [])
    (F__law_is_value : FunAt K mg "_law_is_value" sIsValue ["_law_found"])
    (F__law_moved : FunAt K mg "_law_moved" sMoved ["_law_thing", "_law_far", "_law_word"])
    (F__law_far_by : FunAt K mg "_law_far_by" sFar ["_law_script"])
    (F__law_word_by : FunAt K mg "_law_word_by" sWord ["_law_script"])
    {f : Addr} {fd : FuncData} (FN : Fun K "law" "law" sLaw f fd) : FnOk P w K mg base CX0 158 f fd ["_law_script"] (spLawT K T1 T2 T3) := by
  have AP : Aparts P w := apart_all P w
  have c1 := ok_kind_of (P := P) (w := w) (base := base) F_kind_of B
  have c2 := ok_ahead (P := P) (w := w) (base := base) F_question_ahead B
  have c3 := ok_behind (P := P) (w := w) (base := base) F_questions_behind B
  have c4 := ok_rowOn F_row_on_road B c2
  have c5 := ok_upTo (P := P) (w := w) (base := base) F_up_to_settled B
  have c6 := ok_rowAfter F_row_after B AP c3
  have c7 := ok_rowsAfter F_rows_after B c6 c5
  have c8 := ok_outS (P := P) (w := w) (base := base) F_is_shape_outside B KN
  have c9 := ok_needs F_needs_of B c8 c1
  have c10 := ok_strange (P := P) (w := w) (base := base) F_strange_atoms B
  have c11 := ok_meet (P := P) (w := w) F_value_meeting B BM N1
  have c12 := ok_beside (P := P) (w := w) (base := base) F_needs_beside B
  have c13 := ok_both F_needs_of_both B AP c12
  have c14 := ok_may (P := P) (w := w) (base := base) F_may_be_fit B
  have c15 := ok_rowsBeside F_rows_beside B c12 c4 c14 c5
  have c16 := ok_weights (P := P) (w := w) (base := base) F_weights_of B
  have c17 := ok_heaviest F_weightiest_question B BM N2 c16
  have c18 := ok_words F_words_by_weight B BM KN N3 c16
  have c19 := ok_search F_search_past B c17 c18 c7 151 (by decide)
  have c20 := ok_past F_value_past B c15 c19 c11 c13
  have c21 := ok_unfit F_unfit B c9 c10 c20
  have l1 := ok_whole (P := P) (w := w) (base := base) F__law_whole B
  have l2 := F__law_at.callee fun f fd F b m => ok_at (P := P) (w := w) (base := base) F B.len_
  have l3 := ok_same F__law_same B l1
  have l4 := F__law_kind_of.callee fun f fd F b m => ok_lkind (P := P) (w := w) (base := base) F B.isinstance_ B.int_ B.str_ B.tuple_
  have l5 : Callee P w K mg base 2 "_law_fit" ["_law_shape", "_law_value"] spFit := F__law_fit.callee fun f fd F b m => by
    obtain ⟨g, gd, o, bg, kg, mg'⟩ := l4
    exact ok_lfit F o bg kg mg'
  have l6 := ok_first F__law_first_of B l5
  have l7 := F__law_leaf_by.callee fun f fd F b m => ok_leaf (P := P) (w := w) (mg := mg) (base := base) F
  have l8 := ok_flat F__law_flat_by l7
  have l9 := ok_flatRows F__law_flat_rows B l8
  have l10 := ok_allV (P := P) (w := w) (base := base) F__law_all_values B
  have l11 := ok_isV F__law_is_value B l1
  have l12 := F__law_moved.callee fun f fd F b m => ok_moved (P := P) (w := w) (base := base) F b m B.isinstance_ B.int_ B.str_ B.tuple_ 20
  have l13 := F__law_far_by.callee fun f fd F b m => ok_far (P := P) (w := w) (base := base) F B.sum_
  have l14 := F__law_word_by.callee fun f fd F b m => ok_word (P := P) (w := w) (base := base) F B.sum_ B.len_
  exact ok_law FN B l2 l9 l13 l14 l12 c21 l3 l11 l6 l10
theorem kns_mk {K : PySem.W.Frag} {h : Heap} {mg : Str → Option Value} {kk : Addr} {od : Option Addr} {osl : Array (Option Value)} {t1 t2 t3 : Tok} {n : Nat} (X : K.In h) (G : h.Ns mainGlobals mg) (a : PySem.W.nsIn K mainGlobals "KINDS" = some (some (.ref kk)))
    (l : K.lookup kk = some ⟨.type "tuple", od, .seq #[.str "number" t1, .str "text" t2, .str "pair" t3] n, osl⟩) : Kns K mg kk :=
  ⟨PySem.W.mg_of X G a, fun H => .inr ⟨_, _, n, l, rfl, rfl, lenOk rfl, .cons ⟨t1, rfl⟩ (.cons ⟨t2, rfl⟩ (.cons ⟨t3, rfl⟩ .nil))⟩⟩
theorem all_mk6 {P : Program} {w : World} {K : PySem.W.Frag} {h : Heap} {mg : Str → Option Value} {fa : Addr} {T1 T2 T3 kk : Addr} (X : K.In h) (G : h.Ns mainGlobals mg) (hfa : mg "law" = some (.ref fa))
    (N1 : (("value_meeting" : Str) ++ ".<locals>.") ++ "<lambda>" = TN.nm T1) (N2 : (("weightiest_question" : Str) ++ ".<locals>.") ++ "<lambda>" = TN.nm T2) (N3 : (("words_by_weight" : Str) ++ ".<locals>.") ++ "<lambda>" = TN.nm T3) (KN : Kns K mg kk)
    (z0 : PySem.W.nsIn K mainGlobals "len" = some none) (z1 : PySem.W.nsIn K mainGlobals "range" = some none) (z2 : PySem.W.nsIn K mainGlobals "isinstance" = some none) (z3 : PySem.W.nsIn K mainGlobals "sum" = some none) (z4 : PySem.W.nsIn K mainGlobals "sorted" = some none) (z5 : PySem.W.nsIn K mainGlobals "int" = some none) (z6 : PySem.W.nsIn K mainGlobals "str" = some none) (z7 : PySem.W.nsIn K mainGlobals "bool" = some none) (z8 : PySem.W.nsIn K mainGlobals "list" = some none) (z9 : PySem.W.nsIn K mainGlobals "tuple" = some none) (z10 : PySem.W.nsIn K mainGlobals "dict" = some none) (z11 : PySem.W.nsIn K mainGlobals "max" = some none) (z12 : PySem.W.nsIn K mainGlobals "any" = some none)
    (F_kind_of : FunAt K mg "kind_of" sKind ["value"])
    (F_is_shape_outside : FunAt K mg "is_shape_outside" s_is_shape_outside ["shape"])
    (F_needs_of : FunAt K mg "needs_of" s_needs_of ["shape"])
    (F_question_ahead : FunAt K mg "question_ahead" s_question_ahead ["question"])
    (F_questions_behind : FunAt K mg "questions_behind" s_questions_behind ["question", "answer"])
    (F_row_on_road : FunAt K mg "row_on_road" s_row_on_road ["number", "needs"])
    (F_row_after : FunAt K mg "row_after" s_row_after ["row", "question", "answer"])
    (F_up_to_settled : FunAt K mg "up_to_settled" s_up_to_settled ["rows"])
    (F_rows_after : FunAt K mg "rows_after" s_rows_after ["rows", "question", "answer"])
    (F_strange_atoms : FunAt K mg "strange_atoms" s_strange_atoms ["rows_needs"])
    (F_value_meeting : FunL K mg "value_meeting" s_value_meeting ["needs", "strange"] T1)
    (F_needs_beside : FunAt K mg "needs_beside" s_needs_beside ["needs", "met"])
    (F_needs_of_both : FunAt K mg "needs_of_both" s_needs_of_both ["one", "two"])
    (F_may_be_fit : FunAt K mg "may_be_fit" s_may_be_fit ["left"])
    (F_rows_beside : FunAt K mg "rows_beside" s_rows_beside ["rows_needs", "met"])
    (F_weights_of : FunAt K mg "weights_of" s_weights_of ["rows"])
    (F_weightiest_question : FunL K mg "weightiest_question" s_weightiest_question ["rows"] T2)
    (F_words_by_weight : FunL K mg "words_by_weight" s_words_by_weight ["rows", "question"] T3)
    (F_search_past : FunAt K mg "search_past" s_search_past ["rows"])
    (F_value_past : FunAt K mg "value_past" s_value_past ["needs", "rows_needs", "strange"])
    (F_unfit : FunAt K mg "unfit" s_unfit ["rows"])
    (F__law_whole : FunAt K mg "_law_whole" sWhole ["_law_found"])
    (F__law_at : FunAt K mg "_law_at" sAt ["_law_script", "_law_k"])
    (F__law_same : FunAt K mg "_law_same" sSame ["_law_found", "_law_due"])
    (F__law_kind_of : FunAt K mg "_law_kind_of" sLKind ["_law_value"])
    (F__law_fit : FunAt K mg "_law_fit" sLFit ["_law_shape", "_law_value"])
    (F__law_first_of : FunAt K mg "_law_first_of" sFirst ["_law_rows", "_law_value"])
    (F__law_leaf_by : FunAt K mg "_law_leaf_by" sLeaf ["_law_cell"])
    (F__law_flat_by : FunAt K mg "_law_flat_by" sFlat ["_law_cell", "_law_near"])
    (F__law_flat_rows : FunAt K mg "_law_flat_rows" sFlatRows ["_law_cells"])
    (F__law_all_values : FunAt K mg "_law_all_values" sAllV [])
    (F__law_is_value : FunAt K mg "_law_is_value" sIsValue ["_law_found"])
    (F__law_moved : FunAt K mg "_law_moved" sMoved ["_law_thing", "_law_far", "_law_word"])
    (F__law_far_by : FunAt K mg "_law_far_by" sFar ["_law_script"])
    (F__law_word_by : FunAt K mg "_law_word_by" sWord ["_law_script"])
    (F_law : FunAt K mg "law" sLaw ["_law_script"])
    : ∃ fd : FuncData, (∀ (s : Shared) (u : Value), BindsTo s fd ⟨[u], []⟩ [("_law_script", u)]) ∧ ∀ base : Heap, K.In base → base.Ns mainGlobals mg → BmAt mg base → FnOk P w K mg base CX0 158 fa fd ["_law_script"] (spLawT K T1 T2 T3) := by
  have B : Blt mg := ⟨PySem.W.mg_none_of X G z0, PySem.W.mg_none_of X G z1, PySem.W.mg_none_of X G z2, PySem.W.mg_none_of X G z3, PySem.W.mg_none_of X G z4, PySem.W.mg_none_of X G z5, PySem.W.mg_none_of X G z6, PySem.W.mg_none_of X G z7, PySem.W.mg_none_of X G z8, PySem.W.mg_none_of X G z9, PySem.W.mg_none_of X G z10, PySem.W.mg_none_of X G z11, PySem.W.mg_none_of X G z12⟩
  obtain ⟨f, fd, F, b, m⟩ := id F_law
  have e : fa = f := by
    rw [hfa] at m
    cases m
    rfl
  subst e
  obtain ⟨oc, od, kV, doc, pm, an, cdv, ct, osl, rfl, lk, hcd⟩ := id F.ex
  refine ⟨PySem.W.fnOf "law" "law" (defArgs sLaw) (defBody sLaw) (defScope sLaw) .none kV doc pm an cdv ct, fun s u => .of_eq rfl, fun base _ _ BM => ?_⟩
  exact all_ok (P := P) (w := w) B KN BM N1 N2 N3 F_kind_of F_is_shape_outside F_needs_of F_question_ahead F_questions_behind F_row_on_road F_row_after F_up_to_settled F_rows_after F_strange_atoms F_value_meeting F_needs_beside F_needs_of_both F_may_be_fit F_rows_beside F_weights_of F_weightiest_question F_words_by_weight F_search_past F_value_past F_unfit F__law_whole F__law_at F__law_same F__law_kind_of F__law_fit F__law_first_of F__law_leaf_by F__law_flat_by F__law_flat_rows F__law_all_values F__law_is_value F__law_moved F__law_far_by F__law_word_by F
end ST
set_option Elab.async false
set_option linter.all false
set_option maxRecDepth 100000
open PySem PySem.W PyProof.Rows
noncomputable instance ST.tn6 : ST.TN := ⟨fun a => if a = 108 then "value_meeting.<locals>.<lambda>" else if a = 144 then "weightiest_question.<locals>.<lambda>" else "words_by_weight.<locals>.<lambda>"⟩
theorem ST.nm1 : (("value_meeting" : Str) ++ ".<locals>.") ++ "<lambda>" = ST.TN.nm 108 := by decide +kernel
theorem ST.nm2 : (("weightiest_question" : Str) ++ ".<locals>.") ++ "<lambda>" = ST.TN.nm 144 := by decide +kernel
theorem ST.nm3 : (("words_by_weight" : Str) ++ ".<locals>.") ++ "<lambda>" = ST.TN.nm 151 := by decide +kernel
theorem ST.on0 : ∀ {us : List Value}, us.length = 0 → us = []
  | [], _ => rfl
theorem ST.on1 : ∀ {us : List Value}, us.length = 1 → ∃ a, us = [a]
  | [a], _ => ⟨a, rfl⟩
theorem ST.on2 : ∀ {us : List Value}, us.length = 2 → ∃ a b, us = [a, b]
  | [a, b], _ => ⟨a, b, rfl⟩
theorem ST.on3 : ∀ {us : List Value}, us.length = 3 → ∃ a b c, us = [a, b, c]
  | [a, b, c], _ => ⟨a, b, c, rfl⟩
theorem PySem.W.Fast.te5066969147432716567 : True := trivial
noncomputable def PySem.W.Fast.tw17869151725382631241 : Unit := ()
noncomputable def PySem.W.Fast.tw15936411389393755794 : Unit := ()
noncomputable def PySem.W.Fast.tw4207162870257691774 : Unit := ()
noncomputable def PySem.W.Fast.tw9805703098772039619 : Unit := ()
noncomputable def PySem.W.Fast.tw17769070675247534294 : Unit := ()
noncomputable def PySem.W.Fast.tw2277640762264232962 : Unit := ()
noncomputable def PySem.W.Fast.tw849822502394319987 : Unit := ()
noncomputable def PySem.W.Fast.tw7111048647121277496 : Unit := ()
noncomputable def PySem.W.Fast.tw15875218861428217447 : Unit := ()
noncomputable def PySem.W.Fast.tw2635096935180016662 : Unit := ()
noncomputable def PySem.W.Fast.tw4793920814030661775 : Unit := ()
set_option maxRecDepth 100000 in
set_option maxHeartbeats 0 in
theorem PySem.Challenge.cw_shapetree_k06_whole_unfit_holds : PySem.Challenge.rw_shapetree_k06_whole_unfit.Holds := by
  w_on; o_law; k_head; (case hw => w_witness2)
  k_fill
  refine ST.walk_ofT (l := PySem.Challenge.rw_shapetree_k06_whole_unfit) (n := 63) (k := 158) (x := "_law_script") (sp := fun K => ST.spLawT K 108 144 151) [(112, 108), (148, 144), (155, 151)] rfl (by decide) rfl ⟨rfl, by decide, by decide⟩ (fun w h Y => PySem.W.km_in_of Y) (fun w h Y => ?T) (fun w => ?K) ?F ?S
  case T =>
    have z := PySem.W.km_tabs_of Y
    exact List.forall_mem_cons.mpr ⟨z 108 (by decide), List.forall_mem_cons.mpr ⟨z 144 (by decide), List.forall_mem_cons.mpr ⟨z 151 (by decide), fun _ h => nomatch h⟩⟩⟩
  case K =>
    refine List.forall_mem_cons.mpr ⟨⟨?c1, ?n1⟩, List.forall_mem_cons.mpr ⟨⟨?c2, ?n2⟩, List.forall_mem_cons.mpr ⟨⟨?c3, ?n3⟩, fun _ h => nomatch h⟩⟩⟩
    (case c1 => kernel_rfl); (case n1 => kernel_rfl); (case c2 => kernel_rfl); (case n2 => kernel_rfl); (case c3 => kernel_rfl); (case n3 => kernel_rfl)
  case S => exact fun K H a ns hl hS hT => ⟨⟨a, ns, rfl, hS, hl, fun _ => rfl⟩, ST.tabQ_nil (hT (112, 108) (by simp)), ST.tabQ_nil (hT (148, 144) (by simp)), ST.tabQ_nil (hT (155, 151) (by simp))⟩
  case F =>
    intro w mg fa h KX G hmg
    refine' ST.all_mk6 KX G hmg ST.nm1 ST.nm2 ST.nm3 ?KN ?z0 ?z1 ?z2 ?z3 ?z4 ?z5 ?z6 ?z7 ?z8 ?z9 ?z10 ?z11 ?z12 ?F_kind_of ?F_is_shape_outside ?F_needs_of ?F_question_ahead ?F_questions_behind ?F_row_on_road ?F_row_after ?F_up_to_settled ?F_rows_after ?F_strange_atoms ?F_value_meeting ?F_needs_beside ?F_needs_of_both ?F_may_be_fit ?F_rows_beside ?F_weights_of ?F_weightiest_question ?F_words_by_weight ?F_search_past ?F_value_past ?F_unfit ?F__law_whole ?F__law_at ?F__law_same ?F__law_kind_of ?F__law_fit ?F__law_first_of ?F__law_leaf_by ?F__law_flat_by ?F__law_flat_rows ?F__law_all_values ?F__law_is_value ?F__law_moved ?F__law_far_by ?F__law_word_by ?F_law
    case KN =>
      refine' ST.kns_mk KX G ?a ?l
      (case a => k_is); (case l => k_is)
    case F_kind_of =>
      refine' ST.funAt_mk KX G ?a ?l ?c ?k (fun _ _ _ _ _ _ us hl => by obtain ⟨_, rfl⟩ := ST.on1 hl; rfl)
      (case a => k_is); (case l => k_is); (case c => k_is); (case k => k_is)
    case F_is_shape_outside =>
      refine' ST.funAt_mk KX G ?a ?l ?c ?k (fun _ _ _ _ _ _ us hl => by obtain ⟨_, rfl⟩ := ST.on1 hl; rfl)
      (case a => k_is); (case l => k_is); (case c => k_is); (case k => k_is)
    case F_needs_of =>
      refine' ST.funAt_mk KX G ?a ?l ?c ?k (fun _ _ _ _ _ _ us hl => by obtain ⟨_, rfl⟩ := ST.on1 hl; rfl)
      (case a => k_is); (case l => k_is); (case c => k_is); (case k => k_is)
    case F_question_ahead =>
      refine' ST.funAt_mk KX G ?a ?l ?c ?k (fun _ _ _ _ _ _ us hl => by obtain ⟨_, rfl⟩ := ST.on1 hl; rfl)
      (case a => k_is); (case l => k_is); (case c => k_is); (case k => k_is)
    case F_questions_behind =>
      refine' ST.funAt_mk KX G ?a ?l ?c ?k (fun _ _ _ _ _ _ us hl => by obtain ⟨_, _, rfl⟩ := ST.on2 hl; rfl)
      (case a => k_is); (case l => k_is); (case c => k_is); (case k => k_is)
    case F_row_on_road =>
      refine' ST.funAt_mk KX G ?a ?l ?c ?k (fun _ _ _ _ _ _ us hl => by obtain ⟨_, _, rfl⟩ := ST.on2 hl; rfl)
      (case a => k_is); (case l => k_is); (case c => k_is); (case k => k_is)
    case F_row_after =>
      refine' ST.funAt_mk KX G ?a ?l ?c ?k (fun _ _ _ _ _ _ us hl => by obtain ⟨_, _, _, rfl⟩ := ST.on3 hl; rfl)
      (case a => k_is); (case l => k_is); (case c => k_is); (case k => k_is)
    case F_up_to_settled =>
      refine' ST.funAt_mk KX G ?a ?l ?c ?k (fun _ _ _ _ _ _ us hl => by obtain ⟨_, rfl⟩ := ST.on1 hl; rfl)
      (case a => k_is); (case l => k_is); (case c => k_is); (case k => k_is)
    case F_rows_after =>
      refine' ST.funAt_mk KX G ?a ?l ?c ?k (fun _ _ _ _ _ _ us hl => by obtain ⟨_, _, _, rfl⟩ := ST.on3 hl; rfl)
      (case a => k_is); (case l => k_is); (case c => k_is); (case k => k_is)
    case F_strange_atoms =>
      refine' ST.funAt_mk KX G ?a ?l ?c ?k (fun _ _ _ _ _ _ us hl => by obtain ⟨_, rfl⟩ := ST.on1 hl; rfl)
      (case a => k_is); (case l => k_is); (case c => k_is); (case k => k_is)
    case F_value_meeting =>
      refine' ST.funL_mk KX G ?a ?l ?c ?d ?k (fun _ _ _ _ _ _ us hl => by obtain ⟨_, _, rfl⟩ := ST.on2 hl; rfl)
      (case a => k_is); (case l => k_is); (case c => k_is); (case d => kernel_rfl); (case k => k_is)
    case F_needs_beside =>
      refine' ST.funAt_mk KX G ?a ?l ?c ?k (fun _ _ _ _ _ _ us hl => by obtain ⟨_, _, rfl⟩ := ST.on2 hl; rfl)
      (case a => k_is); (case l => k_is); (case c => k_is); (case k => k_is)
    case F_needs_of_both =>
      refine' ST.funAt_mk KX G ?a ?l ?c ?k (fun _ _ _ _ _ _ us hl => by obtain ⟨_, _, rfl⟩ := ST.on2 hl; rfl)
      (case a => k_is); (case l => k_is); (case c => k_is); (case k => k_is)
    case F_may_be_fit =>
      refine' ST.funAt_mk KX G ?a ?l ?c ?k (fun _ _ _ _ _ _ us hl => by obtain ⟨_, rfl⟩ := ST.on1 hl; rfl)
      (case a => k_is); (case l => k_is); (case c => k_is); (case k => k_is)
    case F_rows_beside =>
      refine' ST.funAt_mk KX G ?a ?l ?c ?k (fun _ _ _ _ _ _ us hl => by obtain ⟨_, _, rfl⟩ := ST.on2 hl; rfl)
      (case a => k_is); (case l => k_is); (case c => k_is); (case k => k_is)
    case F_weights_of =>
      refine' ST.funAt_mk KX G ?a ?l ?c ?k (fun _ _ _ _ _ _ us hl => by obtain ⟨_, rfl⟩ := ST.on1 hl; rfl)
      (case a => k_is); (case l => k_is); (case c => k_is); (case k => k_is)
    case F_weightiest_question =>
      refine' ST.funL_mk KX G ?a ?l ?c ?d ?k (fun _ _ _ _ _ _ us hl => by obtain ⟨_, rfl⟩ := ST.on1 hl; rfl)
      (case a => k_is); (case l => k_is); (case c => k_is); (case d => kernel_rfl); (case k => k_is)
    case F_words_by_weight =>
      refine' ST.funL_mk KX G ?a ?l ?c ?d ?k (fun _ _ _ _ _ _ us hl => by obtain ⟨_, _, rfl⟩ := ST.on2 hl; rfl)
      (case a => k_is); (case l => k_is); (case c => k_is); (case d => kernel_rfl); (case k => k_is)
    case F_search_past =>
      refine' ST.funAt_mk KX G ?a ?l ?c ?k (fun _ _ _ _ _ _ us hl => by obtain ⟨_, rfl⟩ := ST.on1 hl; rfl)
      (case a => k_is); (case l => k_is); (case c => k_is); (case k => k_is)
    case F_value_past =>
      refine' ST.funAt_mk KX G ?a ?l ?c ?k (fun _ _ _ _ _ _ us hl => by obtain ⟨_, _, _, rfl⟩ := ST.on3 hl; rfl)
      (case a => k_is); (case l => k_is); (case c => k_is); (case k => k_is)
    case F_unfit =>
      refine' ST.funAt_mk KX G ?a ?l ?c ?k (fun _ _ _ _ _ _ us hl => by obtain ⟨_, rfl⟩ := ST.on1 hl; rfl)
      (case a => k_is); (case l => k_is); (case c => k_is); (case k => k_is)
    case F__law_whole =>
      refine' ST.funAt_mk KX G ?a ?l ?c ?k (fun _ _ _ _ _ _ us hl => by obtain ⟨_, rfl⟩ := ST.on1 hl; rfl)
      (case a => k_is); (case l => k_is); (case c => k_is); (case k => k_is)
    case F__law_at =>
      refine' ST.funAt_mk KX G ?a ?l ?c ?k (fun _ _ _ _ _ _ us hl => by obtain ⟨_, _, rfl⟩ := ST.on2 hl; rfl)
      (case a => k_is); (case l => k_is); (case c => k_is); (case k => k_is)
    case F__law_same =>
      refine' ST.funAt_mk KX G ?a ?l ?c ?k (fun _ _ _ _ _ _ us hl => by obtain ⟨_, _, rfl⟩ := ST.on2 hl; rfl)
      (case a => k_is); (case l => k_is); (case c => k_is); (case k => k_is)
    case F__law_kind_of =>
      refine' ST.funAt_mk KX G ?a ?l ?c ?k (fun _ _ _ _ _ _ us hl => by obtain ⟨_, rfl⟩ := ST.on1 hl; rfl)
      (case a => k_is); (case l => k_is); (case c => k_is); (case k => k_is)
    case F__law_fit =>
      refine' ST.funAt_mk KX G ?a ?l ?c ?k (fun _ _ _ _ _ _ us hl => by obtain ⟨_, _, rfl⟩ := ST.on2 hl; rfl)
      (case a => k_is); (case l => k_is); (case c => k_is); (case k => k_is)
    case F__law_first_of =>
      refine' ST.funAt_mk KX G ?a ?l ?c ?k (fun _ _ _ _ _ _ us hl => by obtain ⟨_, _, rfl⟩ := ST.on2 hl; rfl)
      (case a => k_is); (case l => k_is); (case c => k_is); (case k => k_is)
    case F__law_leaf_by =>
      refine' ST.funAt_mk KX G ?a ?l ?c ?k (fun _ _ _ _ _ _ us hl => by obtain ⟨_, rfl⟩ := ST.on1 hl; rfl)
      (case a => k_is); (case l => k_is); (case c => k_is); (case k => k_is)
    case F__law_flat_by =>
      refine' ST.funAt_mk KX G ?a ?l ?c ?k (fun _ _ _ _ _ _ us hl => by obtain ⟨_, _, rfl⟩ := ST.on2 hl; rfl)
      (case a => k_is); (case l => k_is); (case c => k_is); (case k => k_is)
    case F__law_flat_rows =>
      refine' ST.funAt_mk KX G ?a ?l ?c ?k (fun _ _ _ _ _ _ us hl => by obtain ⟨_, rfl⟩ := ST.on1 hl; rfl)
      (case a => k_is); (case l => k_is); (case c => k_is); (case k => k_is)
    case F__law_all_values =>
      refine' ST.funAt_mk KX G ?a ?l ?c ?k (fun _ _ _ _ _ _ us hl => by obtain rfl := ST.on0 hl; rfl)
      (case a => k_is); (case l => k_is); (case c => k_is); (case k => k_is)
    case F__law_is_value =>
      refine' ST.funAt_mk KX G ?a ?l ?c ?k (fun _ _ _ _ _ _ us hl => by obtain ⟨_, rfl⟩ := ST.on1 hl; rfl)
      (case a => k_is); (case l => k_is); (case c => k_is); (case k => k_is)
    case F__law_moved =>
      refine' ST.funAt_mk KX G ?a ?l ?c ?k (fun _ _ _ _ _ _ us hl => by obtain ⟨_, _, _, rfl⟩ := ST.on3 hl; rfl)
      (case a => k_is); (case l => k_is); (case c => k_is); (case k => k_is)
    case F__law_far_by =>
      refine' ST.funAt_mk KX G ?a ?l ?c ?k (fun _ _ _ _ _ _ us hl => by obtain ⟨_, rfl⟩ := ST.on1 hl; rfl)
      (case a => k_is); (case l => k_is); (case c => k_is); (case k => k_is)
    case F__law_word_by =>
      refine' ST.funAt_mk KX G ?a ?l ?c ?k (fun _ _ _ _ _ _ us hl => by obtain ⟨_, rfl⟩ := ST.on1 hl; rfl)
      (case a => k_is); (case l => k_is); (case c => k_is); (case k => k_is)
    case F_law =>
      refine' ST.funAt_mk KX G ?a ?l ?c ?k (fun _ _ _ _ _ _ us hl => by obtain ⟨_, rfl⟩ := ST.on1 hl; rfl)
      (case a => k_is); (case l => k_is); (case c => k_is); (case k => k_is)
    (case z0 => k_is); (case z1 => k_is); (case z2 => k_is); (case z3 => k_is); (case z4 => k_is); (case z5 => k_is); (case z6 => k_is); (case z7 => k_is); (case z8 => k_is); (case z9 => k_is); (case z10 => k_is); (case z11 => k_is); (case z12 => k_is)
#print axioms PySem.Challenge.cw_shapetree_k06_whole_unfit_holds
