import PyProof.Rows.All
import Wide.All
import OpenK.AllK
import Wide.FinOn
import PyProof.EqAt
import PyProof.EqKinds
import PyProof.TupleCall
import KE.BitLaws
import Open.SpecLaws
import KE.OsHead
import KE.OsGo
import PyProof.ExcClass
import PyProof.InstLoad
import PyProof.InstStoreFacts
import PyProof.ExcAttrAll.Exception
import PyProof.RaisesMany
import PyProof.Commute
import PyProof.StationsW
import PyProof.Draws
import PyProof.EnumMake
import PyProof.TupleIter
import PyProof.WalksMore
import PyProof.ExcBaseAll.Exception
import PyProof.RulesAs
import PyProof.NsDelKeeps
import PyProof.NeKinds
import PySem.Challenge.RW_halfseendesk_s01_judge
import PyWqbada
section
set_option Elab.async false
set_option linter.all false
set_option maxRecDepth 100000
/-! THE HAND LAYER, for ints, bools, texts, own classes, lists, tuples, dicts, comprehensions, walks over dicts, enumerate, zip, reversed, texts, calls, loops. Paste it whole ahead of your own text; what your proof does not reach may be deleted. -/
namespace L2
open PySem PySem.Spec PyProof.Rows
/-- a key: an int or a str -/
abbrev Key := Sum Int Str
def keyIs : Key → Value → Bool
  | .inl k, v => Value.isInt k v
  | .inr x, v => Value.isStrOf x v
def keyH (w : World) : Key → Int
  | .inl k => hashInt k
  | .inr x => hashStr w x
theorem keyIs_shape : ∀ {k : Key} {v : Value}, keyIs k v = true → (∃ i t, k = Sum.inl i ∧ v = Value.int i t) ∨ (∃ x t, k = Sum.inr x ∧ v = Value.str x t)
  | .inl i, v, h => by
    obtain ⟨t, e⟩ := Value.isInt_shape (k := i) (v := v) h
    exact .inl ⟨i, t, rfl, e⟩
  | .inr x, v, h => by
    obtain ⟨t, e⟩ := Value.isStrOf_shape (x := x) (v := v) h
    exact .inr ⟨x, t, rfl, e⟩
theorem key_ll (a b : Int) : decide ((Sum.inl a : Key) = Sum.inl b) = (a == b) := by
  by_cases e : a = b
  · subst e; simp
  · have h : ¬ (Sum.inl a : Key) = Sum.inl b := fun q => e (Sum.inl.inj q)
    rw [decide_eq_false h]
    exact (beq_eq_false_iff_ne.mpr e).symm
theorem key_rr (a b : Str) : decide ((Sum.inr a : Key) = Sum.inr b) = decide (a = b) := by
  by_cases e : a = b
  · subst e; simp
  · have h : ¬ (Sum.inr a : Key) = Sum.inr b := fun q => e (Sum.inr.inj q)
    rw [decide_eq_false h, decide_eq_false e]
theorem key_lr (a : Int) (b : Str) : decide ((Sum.inl a : Key) = Sum.inr b) = false := decide_eq_false (fun q => nomatch q)
theorem key_rl (a : Str) (b : Int) : decide ((Sum.inr a : Key) = Sum.inl b) = false := decide_eq_false (fun q => nomatch q)
def mixKind (prog : Program) (w : World) : PySem.KeyKind prog w Key where
  is := keyIs
  hash := keyH w
  inj := fun v a b ha hb => by
    rcases keyIs_shape ha with ⟨i, t, rfl, rfl⟩ | ⟨x, t, rfl, rfl⟩
    · rcases keyIs_shape hb with ⟨j, u, rfl, e⟩ | ⟨y, u, rfl, e⟩
      · injection e with e1 _; rw [e1]
      · exact nomatch e
    · rcases keyIs_shape hb with ⟨j, u, rfl, e⟩ | ⟨y, u, rfl, e⟩
      · exact nomatch e
      · injection e with e1 _; rw [e1]
  byValue := fun k v h => by
    rcases keyIs_shape h with ⟨i, t, rfl, rfl⟩ | ⟨x, t, rfl, rfl⟩ <;> rfl
  pyHash := fun hv h => by
    rcases keyIs_shape hv with ⟨i, t, rfl, rfl⟩ | ⟨x, t, rfl, rfl⟩
    · exact wpAny_pyHash_int h
    · exact wpAny_pyHash_str h
  eqBool := fun hu hv h => by
    rcases keyIs_shape hu with ⟨i, t, rfl, rfl⟩ | ⟨x, t, rfl, rfl⟩
    · rcases keyIs_shape hv with ⟨j, u, rfl, rfl⟩ | ⟨y, u, rfl, rfl⟩
      · rw [key_ll] at h; exact wpAny_eqBool_int h
      · rw [key_lr] at h; exact SeqAt.EqAt.int_str i t y u _ _ _ _ h
    · rcases keyIs_shape hv with ⟨j, u, rfl, rfl⟩ | ⟨y, u, rfl, rfl⟩
      · rw [key_rl] at h; exact SeqAt.EqAt.str_int x t j u _ _ _ _ h
      · rw [key_rr] at h; exact wpAny_eqBool_str h
  «strs» := fun k x t v h => by
    rcases keyIs_shape h with ⟨i, u, rfl, e⟩ | ⟨y, u, rfl, e⟩
    · exact nomatch e
    · injection e with e1 _
      subst e1
      cases v <;> rfl
end L2
namespace L2
open PySem PySem.Spec PyProof.Rows
/-- a value, without the heap -/
inductive V where
  | non | bl (b : Bool) | int (i : Int) | str (x : Str) | byt (b : Array UInt8) | flt (b : UInt64) | ref (a : Addr) | ty (n : String)
  deriving DecidableEq
def RelV : V → Value → Prop
  | .non, u => u = Value.none
  | .bl b, u => u = Value.bool b
  | .int i, u => ∃ t, u = Value.int i t
  | .str x, u => ∃ t, u = Value.str x t
  | .byt b, u => ∃ t, u = Value.bytes b t
  | .flt b, u => ∃ t, u = Value.float b t
  | .ref a, u => u = Value.ref a
  | .ty n, u => u = Value.type n
abbrev Vals : List V → List Value → Prop := Paired RelV
theorem Vals.length {xs : List V} {us : List Value} (r : Vals xs us) : xs.length = us.length := Paired.length r
theorem Vals.get : ∀ {xs : List V} {us : List Value} {i : Nat} {x : V}, Vals xs us → xs[i]? = some x → ∃ u, us[i]? = some u ∧ RelV x u
  | _, _, _, _, .nil, e => by simp at e
  | _, _, 0, _, .cons r _, e => by simp at e; subst e; exact ⟨_, rfl, r⟩
  | _, _, i + 1, x, .cons _ t, e => by
    obtain ⟨u, h1, h2⟩ := Vals.get (i := i) (x := x) t (by simpa using e)
    exact ⟨u, by simpa using h1, h2⟩
theorem Vals.append : ∀ {xs ys : List V} {us ws : List Value}, Vals xs us → Vals ys ws → Vals (xs ++ ys) (us ++ ws)
  | _, _, _, _, .nil, s => s
  | _, _, _, _, .cons r t, s => .cons r (Vals.append t s)
def RelO : Option V → Option Value → Prop
  | some v, some u => RelV v u
  | none, none => True
  | _, _ => False
def KV {κ : Type} : List (κ × V) → List (κ × Value) → Prop := Paired fun (p : κ × V) (q : κ × Value) => p.1 = q.1 ∧ RelV p.2 q.2
/-- a key of a dict (00_mix): an int or a text -/
def kV : Key → V
  | .inl i => .int i
  | .inr x => .str x
/-- what stands at a tracked address -/
inductive HO where
  /-- a list -/
  | lst (xs : List V)
  /-- a tuple (never changes) -/
  | tup (xs : List V)
  /-- a dict whose keys are ints and texts; one whose keys are tuples of ints and texts (the empty one is both) -/
  | dK (kvs : List (Key × V)) | dT (kvs : List (List Key × V))
  /-- a set of ints: its members, its size -/
  | set (S : Int → Bool) (n : Nat)
  /-- an instance of the class at C, its dict at dx, its attributes -/
  | ins (C dx : Addr) (fs : List (Str × V))
  /-- the dict of the instance at x -/
  | own (x : Addr)
  /-- the dict of an exception -/
  | xd (fs : List (Str × V))
  /-- a bound method, f of x -/
  | met (f x : Addr)
  /-- a range object lo, lo + 1, .. below hi -/
  | rng (lo hi : Int)
  /-- a thing that is known to the object (the script; a dict while a loop walks it): read, never written while it is so -/
  | frz (o : Obj) (u : HO)
  /-- a code object's table -/
  | tbl (ps : Array Value)
  /-- any other thing, by what is true of its one object (a def of one's own: SetO a S n := HO.ext fun h => ..) -/
  | ext (φ : Heap → Prop)
abbrev Hp := Addr → Option HO
def upd (H : Hp) (a : Addr) (o : HO) : Hp := fun b => if b = a then some o else H b
theorem upd_same {H : Hp} {a : Addr} {o : HO} : upd H a o a = some o := by unfold upd; rw [if_pos rfl]
theorem upd_ne {H : Hp} {a b : Addr} {o : HO} (h : b ≠ a) : upd H a o b = H b := by unfold upd; rw [if_neg h]
/-- two objects of different content stand apart -/
theorem ne_of {H : Hp} {a b : Addr} {o u : HO} (h : H a = some o) (h' : H b = some u) (d : o ≠ u) : a ≠ b := by
  intro e; subst e; rw [h] at h'; exact d (Option.some.inj h')
theorem ne_of_none {H : Hp} {a b : Addr} {o : HO} (h : H a = some o) (h' : H b = none) : a ≠ b := by
  intro e; subst e; rw [h] at h'; cases h'
section
variable (P : Program) (w : World)
def ObjOk (H : Hp) (h : Heap) (a : Addr) : HO → Prop
  | .lst xs => xs.length ≤ sizeLine ∧ ∃ (its : List Value) (n : Nat), Vals xs its ∧ h.get? a = some { cls := .type "list", data := .seq its.toArray n }
  | .tup xs => xs.length ≤ sizeLine ∧ ∃ its : List Value, Vals xs its ∧ IsTup h a its.toArray
  | .dK kvs => kvs.length ≤ sizeLine ∧ (a == sysModules) = false ∧ ∃ vs, KV kvs vs ∧ h.DictOf (mixKind P w) a vs
  | .dT kvs => kvs.length ≤ sizeLine ∧ (a == sysModules) = false ∧ ∃ xs : List (List Key × Addr × Value),
      Paired (fun (p : List Key × V) (q : List Key × Addr × Value) => p.1 = q.1 ∧ H q.2.1 = some (.tup (p.1.map kV)) ∧ RelV p.2 q.2.2) kvs xs ∧
      ∃ o es ep, h.get? a = some o ∧ o.ExactDict ∧ o.data = .dict es ep ∧ es.toList = xs.map (entryOfKey (tupleKind (mixKind P w))) ∧ (xs.map (·.1)).Nodup
  | .set S n => h.SetOf (intKind P w) a S n
  | .ins C dx fs => H dx = some (.own a) ∧ fs.length ≤ 1000 ∧ dx ≠ a ∧ h.get? a = some (PySem.W.instObj C dx) ∧
      ∃ mA, h.Ns1 dx mA ∧ (∀ f, RelO (fs.lookup f) (mA f)) ∧ PySem.Within mA (fs.map (·.1))
  | .own _ => ∃ o, h.get? a = some o
  | .xd fs => ∃ mA, h.Ns1 a mA ∧ ∀ f, RelO (fs.lookup f) (mA f)
  | .rng lo hi => ∃ t u v, h.get? a = some { cls := .type "range", data := .fields #[.int lo t, .int hi u, .int 1 v] }
  | .frz o u => h.get? a = some o ∧ ObjOk H h a u
  | .tbl ps => h.get? a = some { cls := .none, data := .fields ps }
  | .met f x => h.get? a = some (PySem.W.methodObj (.ref f) (.ref x))
  | .ext φ => φ h ∧ (∃ o, h.get? a = some o) ∧ ∀ h1 h2 : Heap, φ h1 → (∀ o, h1.get? a = some o → h2.get? a = some o) → φ h2
/-- the abstract heap is held -/
def HOk (H : Hp) (h : Heap) : Prop := ∀ a o, H a = some o → ObjOk P w H h a o
end
section
variable {P : Program} {w : World} {H H' : Hp} {h h' : Heap} {a : Addr} {o : HO}
theorem ObjOk.lt (x : ObjOk P w H h a o) : a < h.objs.size := by
  cases o with
  | lst xs => obtain ⟨_, _, _, _, e⟩ := x; exact Heap.lt_size e
  | tup xs => obtain ⟨_, _, _, p⟩ := x; exact p.lt
  | dK kvs => obtain ⟨_, _, _, _, o, _, _, e, _⟩ := x; exact Heap.lt_size e
  | dT kvs => obtain ⟨_, _, _, _, o, _, _, e, _⟩ := x; exact Heap.lt_size e
  | set S n => obtain ⟨o, _, _, _, e, _⟩ := x; exact Heap.lt_size e
  | ins C dx fs => obtain ⟨_, _, _, e, _⟩ := x; exact Heap.lt_size e
  | own y => obtain ⟨_, e⟩ := x; exact Heap.lt_size e
  | xd fs => obtain ⟨_, ⟨_, _, _, e, _⟩, _⟩ := x; exact Heap.lt_size e
  | rng lo hi => obtain ⟨_, _, _, e⟩ := x; exact Heap.lt_size e
  | frz ob u => obtain ⟨e, _⟩ := x; exact Heap.lt_size e
  | tbl ps => exact Heap.lt_size (show h.get? a = some _ from x)
  | met f y => exact Heap.lt_size (show h.get? a = some _ from x)
  | ext φ => obtain ⟨_, ⟨_, e⟩, _⟩ := x; exact Heap.lt_size e
theorem Paired.mapP {α β : Type} {F G : α → β → Prop} : ∀ {l₁ : List α} {l₂ : List β}, Paired F l₁ l₂ → (∀ a b, F a b → G a b) → Paired G l₁ l₂
  | _, _, .nil, _ => .nil
  | _, _, .cons r t, f => .cons (f _ _ r) (Paired.mapP t f)
/-- what an object's description leans on: its own object, its own dict, the tuples -/
theorem ObjOk.stay (x : ObjOk P w H h a o) (k : ∀ b u, (b = a ∨ H b = some (.own a)) → h.get? b = some u → h'.get? b = some u)
    (ho : ∀ b, H b = some (.own a) → H' b = some (.own a)) (ht : ∀ b xs, H b = some (.tup xs) → H' b = some (.tup xs)) : ObjOk P w H' h' a o := by
  induction o with
  | lst xs => obtain ⟨z, its, n, r, e⟩ := x; exact ⟨z, its, n, r, k _ _ (.inl rfl) e⟩
  | tup xs => obtain ⟨z, its, r, ob, e, c⟩ := x; exact ⟨z, its, r, ob, k _ _ (.inl rfl) e, c⟩
  | dK kvs => obtain ⟨z, y, vs, r, ob, es, ep, e, c⟩ := x; exact ⟨z, y, vs, r, ob, es, ep, k _ _ (.inl rfl) e, c⟩
  | dT kvs =>
    obtain ⟨z, y, xs, r, ob, es, ep, e, c⟩ := x
    exact ⟨z, y, xs, Paired.mapP r fun p q z => ⟨z.1, ht _ _ z.2.1, z.2.2⟩, ob, es, ep, k _ _ (.inl rfl) e, c⟩
  | set S n => obtain ⟨ob, es, ep, t, e, c⟩ := x; exact ⟨ob, es, ep, t, k _ _ (.inl rfl) e, c⟩
  | ins C dx fs =>
    obtain ⟨d, z, ne, e, mA, ⟨od, es, ep, e2, c⟩, r⟩ := x
    exact ⟨ho _ d, z, ne, k _ _ (.inl rfl) e, mA, ⟨od, es, ep, k _ _ (.inr d) e2, c⟩, r⟩
  | own y => obtain ⟨ob, e⟩ := x; exact ⟨ob, k _ _ (.inl rfl) e⟩
  | xd fs => obtain ⟨mA, ⟨od, es, ep, e, c⟩, r⟩ := x; exact ⟨mA, ⟨od, es, ep, k _ _ (.inl rfl) e, c⟩, r⟩
  | rng lo hi => obtain ⟨t, u, v, e⟩ := x; exact ⟨t, u, v, k _ _ (.inl rfl) e⟩
  | frz ob u ih => obtain ⟨e, q⟩ := x; exact ⟨k _ _ (.inl rfl) e, ih q⟩
  | tbl ps =>
    have e : h.get? a = some { cls := .none, data := .fields ps } := x
    show h'.get? a = some { cls := .none, data := .fields ps }
    exact k a _ (.inl rfl) e
  | met f y =>
    have e : h.get? a = some (PySem.W.methodObj (.ref f) (.ref y)) := x
    show h'.get? a = some (PySem.W.methodObj (.ref f) (.ref y))
    exact k a _ (.inl rfl) e
  | ext φ => obtain ⟨p, ⟨o, e⟩, st⟩ := x; exact ⟨st _ _ p fun o q => k _ _ (.inl rfl) q, ⟨o, k _ _ (.inl rfl) e⟩, st⟩
theorem HOk.lt (x : HOk P w H h) (e : H a = some o) : a < h.objs.size := (x a o e).lt
theorem HOk.fresh (x : HOk P w H h) (e : h.objs.size ≤ a) : H a = none := by
  cases q : H a with
  | none => rfl
  | some u => exact absurd (Nat.lt_of_lt_of_le (x.lt q) e) (Nat.lt_irrefl _)
/-- every object of the heap is kept -/
theorem HOk.kept (x : HOk P w H h) (k : ∀ b u, h.get? b = some u → h'.get? b = some u) : HOk P w H h' := fun a o e =>
  (x a o e).stay (fun b u _ q => k b u q) (fun _ q => q) fun _ _ q => q
/-- a new object is laid and tracked -/
theorem HOk.laid (x : HOk P w H h) (k : ∀ b u, h.get? b = some u → h'.get? b = some u) (hp : h.objs.size ≤ a) (new : ObjOk P w (upd H a o) h' a o) : HOk P w (upd H a o) h' := fun b u e => by
  have hn := x.fresh hp
  by_cases hb : b = a
  · subst hb; rw [upd_same] at e; cases e; exact new
  · rw [upd_ne hb] at e
    exact (x b u e).stay (fun c v _ q => k c v q) (fun c q => by rw [upd_ne (ne_of_none q hn)]; exact q) fun c xs q => by rw [upd_ne (ne_of_none q hn)]; exact q
end
/-- what may be read as u: it is u, or a known u -/
def Rd (H : Hp) (a : Addr) (u : HO) : Prop := H a = some u ∨ ∃ o, H a = some (.frz o u)
theorem Rd.ok {P : Program} {w : World} {H : Hp} {h : Heap} {a : Addr} {u : HO} (r : Rd H a u) (x : HOk P w H h) : ObjOk P w H h a u := by
  rcases r with r | ⟨o, r⟩
  · exact x a u r
  · obtain ⟨_, q⟩ := x a _ r
    exact q
/-- what may be written -/
def Mut : Option HO → Prop
  | some (.lst _) => True
  | some (.dK _) => True
  | some (.dT _) => True
  | some (.set _ _) => True
  | some (.ins _ _ _) => True
  | some (.ext _) => True
  | _ => False
section
variable {P : Program} {w : World} {H : Hp} {h h' : Heap} {x e : Addr} {o' : HO}
/-- the object at e is changed: x itself, or the dict of the instance x -/
theorem HOk.write (ok : HOk P w H h) (mu : Mut (H x)) (he : e = x ∨ H e = some (.own x)) (k : ∀ b u, b ≠ e → h.get? b = some u → h'.get? b = some u) (heo : ∃ u, h'.get? e = some u)
    (new : ObjOk P w (upd H x o') h' x o') : HOk P w (upd H x o') h' := fun b u q => by
  have nown : ∀ c y, H c = some (.own y) → c ≠ x := fun c y r z => by subst z; rw [r] at mu; exact mu
  have ntup : ∀ c xs, H c = some (.tup xs) → c ≠ x := fun c xs r z => by subst z; rw [r] at mu; exact mu
  by_cases hb : b = x
  · subst hb; rw [upd_same] at q; cases q; exact new
  · rw [upd_ne hb] at q
    by_cases hbe : b = e
    · have q' : H b = some (.own x) := by
        rcases he with z | z
        · exact absurd (hbe.trans z) hb
        · rw [hbe]; exact z
      rw [q] at q'; cases q'
      obtain ⟨v, hv⟩ := heo
      exact ⟨v, by rw [hbe]; exact hv⟩
    · refine (ok b u q).stay (fun c v hc r => k c v ?_ r) (fun c r => by rw [upd_ne (nown c b r)]; exact r) fun c xs r => by rw [upd_ne (ntup c xs r)]; exact r
      rcases hc with rfl | hc
      · exact hbe
      · rintro rfl
        rcases he with z | z
        · exact nown c b hc z
        · rw [hc] at z; cases z; exact hb rfl
end
/-! ### kept unless tracked; of the frames at fs (the callers') the slots may change (an exception that passes writes there); of the records at ex (iterators) nothing is said -/
structure Un (fs ex : List Addr) (H H' : Hp) (h h' : Heap) : Prop where
  keep : ∀ b o, h.get? b = some o → H b = none → b ∉ fs → b ∉ ex → h'.get? b = some o
  slot : ∀ b o, h.get? b = some o → H b = none → b ∈ fs → b ∉ ex → ∃ sl, h'.get? b = some { o with slots := sl }
  free : ∀ b o, h.get? b = some o → H b = none → b ∉ ex → H' b = none
  there : ∀ b o, h.get? b = some o → b ∉ ex → ∃ o', h'.get? b = some o'
  tups : ∀ b xs, H b = some (.tup xs) → H' b = some (.tup xs)
  frzs : ∀ b o u, H b = some (.frz o u) → H' b = some (.frz o u)
  tbls : ∀ b ps, H b = some (.tbl ps) → ∃ more, H' b = some (.tbl (ps ++ more))
section
variable {fs fs' ex ex' : List Addr} {H H1 H2 : Hp} {h h1 h2 h' : Heap} {a x e : Addr} {o : HO}
theorem Un.any (u : Un fs ex H H1 h h1) {b : Addr} {ob : Obj} (q : h.get? b = some ob) (n : H b = none) (hx : b ∉ ex) : ∃ sl, h1.get? b = some { ob with slots := sl } := by
  by_cases hb : b ∈ fs
  · exact u.slot b ob q n hb hx
  · exact ⟨ob.slots, u.keep b ob q n hb hx⟩
theorem Un.kept (k : ∀ b u, h.get? b = some u → h'.get? b = some u) : Un fs ex H H h h' :=
  ⟨fun b ob q _ _ _ => k b ob q, fun b ob q _ _ _ => ⟨ob.slots, k b ob q⟩, fun _ _ _ n _ => n, fun b ob q _ => ⟨ob, k b ob q⟩, fun _ _ q => q, fun _ _ _ q => q, fun _ ps q => ⟨#[], by rw [q]; simp⟩⟩
theorem Un.refl : Un fs ex H H h h := Un.kept fun _ _ q => q
theorem Un.laid (k : ∀ b u, h.get? b = some u → h'.get? b = some u) (hp : h.objs.size ≤ a) (hn : H a = none) : Un fs ex H (upd H a o) h h' where
  keep := fun b u q _ _ _ => k b u q
  slot := fun b u q _ _ _ => ⟨u.slots, k b u q⟩
  free := fun b u q n _ => by rw [upd_ne (Nat.ne_of_lt (Nat.lt_of_lt_of_le (Heap.lt_size q) hp))]; exact n
  there := fun b u q _ => ⟨u, k b u q⟩
  tups := fun b xs q => by rw [upd_ne (ne_of_none q hn)]; exact q
  frzs := fun b u xs q => by rw [upd_ne (ne_of_none q hn)]; exact q
  tbls := fun b ps q => ⟨#[], by rw [upd_ne (ne_of_none q hn), q]; simp⟩
theorem Un.write (mu : Mut (H x)) (he : e = x ∨ H e = some (.own x)) (k : ∀ b u, b ≠ e → h.get? b = some u → h'.get? b = some u) (heo : ∃ u, h'.get? e = some u) : Un fs ex H (upd H x o) h h' := by
  have hx : ∀ b, H b = none → b ≠ x := fun b n z => by subst z; rw [n] at mu; exact mu
  have hb : ∀ b, H b = none → b ≠ e := fun b n z => by
    subst z
    rcases he with r | r
    · exact hx b n r
    · rw [n] at r; cases r
  have hm : ∀ b u, H b = some u → ¬ Mut (some u) → b ≠ x := fun b u q nm z => by subst z; rw [q] at mu; exact nm mu
  refine ⟨fun b u q n _ _ => k b u (hb b n) q, fun b u q n _ _ => ⟨u.slots, k b u (hb b n) q⟩, fun b u q n _ => by rw [upd_ne (hx b n)]; exact n, fun b u q _ => ?_,
    fun b xs q => by rw [upd_ne (hm b _ q fun z => z)]; exact q, fun b u xs q => by rw [upd_ne (hm b _ q fun z => z)]; exact q, fun b ps q => ⟨#[], by rw [upd_ne (hm b _ q fun z => z), q]; simp⟩⟩
  by_cases hbe : b = e
  · subst hbe; exact heo
  · exact ⟨u, k b u hbe q⟩
end
/-! ### the heap without what is tracked -/
def trk (h : Heap) (H : Hp) : List Addr := (List.range h.objs.size).filter fun a => (H a).isSome
def hidT (h : Heap) (H : Hp) : Heap := PySem.W.hideAll h (trk h H)
theorem hidT_size (h : Heap) (H : Hp) : (hidT h H).objs.size = h.objs.size := PySem.W.hideAll_size _ _
theorem hidT_get {h : Heap} {H : Hp} {b : Addr} {o : Obj} (e : h.get? b = some o) (n : H b = none) : (hidT h H).get? b = some o :=
  PySem.W.hideAll_get _ e fun hm => by
    have q : (H b).isSome = true := (List.mem_filter.mp hm).2
    rw [n] at q; simp at q
theorem of_hidT {h : Heap} {H : Hp} {b : Addr} {o : Obj} (e : (hidT h H).get? b = some o) : h.get? b = some o ∧ H b = none := by
  have e' : h.get? b = some o := PySem.W.of_hideAll (trk h H) e
  refine ⟨e', ?_⟩
  cases q : H b with
  | none => rfl
  | some x =>
    have hm : b ∈ trk h H := List.mem_filter.mpr ⟨List.mem_range.mpr (Heap.lt_size e'), by simp [q]⟩
    have z : (hidT h H).get? b = none := PySem.W.hideAll_none (trk h H) hm
    rw [z] at e; cases e
/-! ### OpenK's ledger, filled with every new object but one -/
end L2
namespace L2
open PySem PySem.Spec PyProof.Rows
/-- the module's facts, over the base: the heap at the law's entry without what is tracked there -/
structure Mod (K : PySem.W.Frag) (mg : Str → Option Value) (base : Heap) : Prop where
  kin : K.In base
  glob : base.Ns mainGlobals mg
  blt : ∃ mb, base.Ns builtinsNs mb ∧ ∀ x : Str, x ≠ "__name__" → mb x = bootBuiltins x
  nolimit : base.NoLimit
/-- the context: a def's body (or a comprehension's block) running. base: fixed through the whole law; s₀, H₀: the entry; outer: the frames whose slots others may change (a def's callers); stack: all frames that run;
   ex: iterators that were made ahead of the entry and are walked here (a comprehension's); fn: the names whose cells were made at the entry (a def: all; a comprehension's block: its own); calm: not within an except suite; pn: pins that every state bears; xe: what is wanted of an exception that leaves the code -/
structure Cx where
  prog : Program
  w : World
  K : PySem.W.Frag
  mg : Str → Option Value
  base : Heap
  A : Around
  N : List Str
  s_0 : Shared
  H_0 : Hp
  env : Env
  outer : List Env
  stack : List Env
  ex : List Addr
  fn : Str → Bool
  calm : Bool
  pn : List (Addr × Obj)
  xe : Value → Shared → Prop
/-- the callers' frames -/
def frs (l : List Env) : List Addr := l.filterMap (·.frame)
abbrev Cx.fs (X : Cx) : List Addr := frs X.outer
def Vis (sc : Scope) (x : Str) : Prop := sc.names.lookup x = some .local ∨ sc.names.lookup x = some .cell ∨ sc.names.lookup x = some .free
def Loc (sc : Scope) (x : Str) : Prop := sc.names.lookup x = some .local ∨ sc.names.lookup x = some .cell
def Look (env : Env) (h : Heap) (m : Str → Option Value) (x : Str) (u : Value) : Prop :=
  (env.kindOf x = some .local ∧ m x = some u) ∨ ((env.kindOf x = some .cell ∨ env.kindOf x = some .free) ∧ ∃ c, env.cells.lookup x = some c ∧ h.IsCell c (some u))
structure Cx.Ok (X : Cx) : Prop where
  mod : Mod X.K X.mg X.base
  kind : X.env.scope.kind = .function
  glob : X.env.globals = mainGlobals
  blt : X.env.builtins = builtinsNs
  above : X.s_0.heap.objs.size ≤ X.env.locals
  inj : ∀ x y c, X.env.cells.lookup x = some c → X.env.cells.lookup y = some c → x = y
  has : ∀ x, (X.env.kindOf x = some .cell ∨ X.env.kindOf x = some .free) → ∃ c, X.env.cells.lookup x = some c
  cab : ∀ x c, X.fn x = true → X.env.cells.lookup x = some c → X.s_0.heap.objs.size ≤ c
  hd : X.calm = true → X.A.handled = none
  frames : X.A.frames = some X.stack
  stk : X.stack = X.outer ∨ (X.stack = X.env :: X.outer ∧ X.env.frame = some X.env.locals)
  exf : ∀ b ∈ X.ex, b ≠ X.env.locals ∧ ∀ x c, X.env.cells.lookup x = some c → c ≠ b
  bs : ∀ b o, X.base.get? b = some o → X.s_0.heap.get? b = some o ∧ X.H_0 b = none
  bsz : X.base.objs.size ≤ X.s_0.heap.objs.size
  noex : ∀ b o, X.base.get? b = some o → b ∉ X.ex
  exfs : ∀ b ∈ X.ex, b ∉ X.fs
  funs : X.s_0.heap.FunFrames X.base X.outer
  frf : ∀ b ∈ X.fs, X.H_0 b = none
structure Inv (X : Cx) (pins : List (Addr × Obj)) (σ : List (Option V)) (H : Hp) (s : Shared) : Prop where
  ok : X.Ok
  os : s.os = X.s_0.os
  bare : AllBare s.gens
  base : Un X.fs X.ex X.H_0 H X.s_0.heap s.heap
  loc : ∃ m, s.heap.Ns X.env.locals m ∧ ∀ (i : Nat) (x : Str) (v : V), X.N[i]? = some x → σ[i]? = some (some v) → Vis X.env.scope x → ∃ u, RelV v u ∧ Look X.env s.heap m x u
  cell : ∀ x c, X.env.cells.lookup x = some c → ∃ v, s.heap.IsCell c v
  free : H X.env.locals = none
  freeC : ∀ x c, X.env.cells.lookup x = some c → H c = none
  pin : ∀ p ∈ X.pn ++ pins, s.heap.get? p.1 = some p.2 ∧ H p.1 = none ∧ p.1 ≠ X.env.locals ∧ p.1 ∉ X.fs ∧ ∀ v, p.2.data ≠ .cell v
  hok : HOk X.prog X.w H s.heap
  len : σ.length = X.N.length
section
variable {X : Cx} {pins : List (Addr × Obj)} {σ : List (Option V)} {H H' : Hp} {s : Shared} {h' : Heap}
theorem Cx.Ok.nofr (ok : X.Ok) {b : Addr} {o : Obj} (e : X.base.get? b = some o) : b ∉ X.fs := fun hb => by
  have := (ok.funs.mem hb).1
  rw [e] at this; cases this
theorem Inv.bs (I : Inv X pins σ H s) : ∀ b o, X.base.get? b = some o → s.heap.get? b = some o ∧ H b = none := fun b o e =>
  ⟨I.base.keep b o (I.ok.bs b o e).1 (I.ok.bs b o e).2 (I.ok.nofr e) (I.ok.noex b o e), I.base.free b o (I.ok.bs b o e).1 (I.ok.bs b o e).2 (I.ok.noex b o e)⟩
theorem Inv.bk (I : Inv X pins σ H s) : ∀ b o, X.base.get? b = some o → s.heap.get? b = some o := fun b o e => (I.bs b o e).1
theorem Inv.mod (I : Inv X pins σ H s) : Mod X.K X.mg X.base := I.ok.mod
theorem Inv.kIn (I : Inv X pins σ H s) : X.K.In s.heap := I.ok.mod.kin.keeps I.bk
/-- the frame over the base: for OpenK's rules (K.In X.base is I.mod.kin) -/
theorem Inv.fr (I : Inv X pins σ H s) : ∃ m, Fr X.base X.env.locals s.heap m :=
  let ⟨m, hn, _⟩ := I.loc
  ⟨m, hn, I.bk, Nat.le_trans I.ok.bsz I.ok.above⟩
theorem Inv.lt (I : Inv X pins σ H s) : X.env.locals < s.heap.objs.size := let ⟨_, hn, _⟩ := I.loc; hn.lt
theorem Inv.sz (I : Inv X pins σ H s) : X.s_0.heap.objs.size ≤ s.heap.objs.size := Nat.le_trans I.ok.above (Nat.le_of_lt I.lt)
theorem Inv.nofs (I : Inv X pins σ H s) {a : Addr} (h : s.heap.objs.size ≤ a) : a ∉ X.fs := fun hb => by
  obtain ⟨_, o, ho, _⟩ := I.ok.funs.mem hb
  exact absurd (Nat.lt_of_lt_of_le (Heap.lt_size ho) (Nat.le_trans I.sz h)) (Nat.lt_irrefl _)
theorem Inv.cne (I : Inv X pins σ H s) : ∀ x c, X.env.cells.lookup x = some c → c ≠ X.env.locals := fun x c e z => by
  obtain ⟨v, o, ho, hd⟩ := I.cell x c e
  obtain ⟨m, ⟨o', es, ep, ho', hd', _⟩, _⟩ := I.loc
  rw [z, ho'] at ho; cases ho; rw [hd'] at hd; cases hd
theorem Inv.funs (I : Inv X pins σ H s) : s.heap.FunFrames X.base X.outer := by
  have all : ∀ (l : List Env), (∀ b ∈ frs l, b ∈ X.fs) → X.s_0.heap.FunFrames X.base l → s.heap.FunFrames X.base l := by
    intro l
    induction l with
    | nil => intro _ _; trivial
    | cons env r ih =>
      intro hs hl
      obtain ⟨hk, ⟨L, o, hf, hn, ho, hd⟩, hr⟩ := hl
      have hL : L ∈ X.fs := hs L (by unfold frs; rw [List.filterMap_cons, hf]; exact List.mem_cons_self)
      obtain ⟨sl, e⟩ := I.base.slot L o ho (I.ok.frf L hL) hL fun z => I.ok.exfs L z hL
      exact ⟨hk, ⟨L, _, hf, hn, e, hd⟩, ih (fun b hb => hs b (by unfold frs; rw [List.filterMap_cons, hf]; exact List.mem_cons_of_mem _ hb)) hr⟩
  exact all X.outer (fun _ hb => hb) I.ok.funs
/-- the frames that run, for a call -/
theorem Inv.stack (I : Inv X pins σ H s) : s.heap.FunFrames X.base X.stack := by
  rcases I.ok.stk with e | ⟨e, hf⟩
  · rw [e]; exact I.funs
  · rw [e]
    obtain ⟨m, hn, _⟩ := I.loc
    refine .cons (by rw [I.ok.kind]; decide) hf hn ?_ I.funs
    exact Heap.get?_none_of_le (Nat.le_trans I.ok.bsz I.ok.above)
theorem Inv.stkSub (I : Inv X pins σ H s) : ∀ b ∈ frs X.stack, b ∈ X.env.locals :: X.fs := fun b hb => by
  rcases I.ok.stk with e | ⟨e, hf⟩
  · rw [e] at hb; exact List.mem_cons_of_mem _ hb
  · rw [e] at hb
    unfold frs at hb
    rw [List.filterMap_cons, hf] at hb
    exact hb
theorem Inv.stkFree (I : Inv X pins σ H s) : ∀ b ∈ frs X.stack, H b = none := fun b hb => by
  rcases List.mem_cons.mp (I.stkSub b hb) with e | hb
  · rw [e]; exact I.free
  · obtain ⟨_, o, ho, _⟩ := I.ok.funs.mem hb
    exact I.base.free b o ho (I.ok.frf b hb) fun z => I.ok.exfs b z hb
/-- THE STEP: the untracked objects but the frame and the records at ch are kept (the callers' frames up to slots), the frame's map is kept, the new abstract heap is held -/
theorem Inv.step {g' : Array GenState} {t' : Nat} {d' : Drawn} {ch : List Addr} (I : Inv X pins σ H s)
    (hch : ∀ b ∈ ch, (b ∈ X.ex ∨ X.s_0.heap.objs.size ≤ b) ∧ b ≠ X.env.locals ∧ (∀ x c, X.env.cells.lookup x = some c → c ≠ b) ∧ ∀ p ∈ X.pn ++ pins, p.1 ≠ b)
    (keep : ∀ b o, b ≠ X.env.locals → b ∉ X.fs → b ∉ ch → s.heap.get? b = some o → H b = none → h'.get? b = some o)
    (slot : ∀ b o, b ≠ X.env.locals → b ∈ X.fs → b ∉ ch → s.heap.get? b = some o → H b = none → ∃ sl, h'.get? b = some { o with slots := sl }) (free : ∀ b o, b ∉ ch → s.heap.get? b = some o → H b = none → H' b = none)
    (there : ∀ b o, b ∉ ch → s.heap.get? b = some o → ∃ o', h'.get? b = some o')
    (tups : ∀ b xs, H b = some (.tup xs) → H' b = some (.tup xs)) (frzs : ∀ b o u, H b = some (.frz o u) → H' b = some (.frz o u)) (tbls : ∀ b ps, H b = some (.tbl ps) → ∃ more, H' b = some (.tbl (ps ++ more)))
    (ns : ∀ m, s.heap.Ns X.env.locals m → h'.Ns X.env.locals m) (hok : HOk X.prog X.w H' h') (hg : AllBare g') :
    Inv X pins σ H' { s with heap := h', gens := g', drawn := d', toks := t' } := by
  have neL : ∀ b o, X.s_0.heap.get? b = some o → b ≠ X.env.locals := fun b o e => Nat.ne_of_lt (Nat.lt_of_lt_of_le (Heap.lt_size e) I.ok.above)
  have neC : ∀ b o, X.s_0.heap.get? b = some o → b ∉ X.ex → b ∉ ch := fun b o e hx hb => by
    rcases (hch b hb).1 with z | z
    · exact hx z
    · exact absurd (Nat.lt_of_lt_of_le (Heap.lt_size e) z) (Nat.lt_irrefl _)
  have cellK : ∀ x c, X.env.cells.lookup x = some c → ∀ v, s.heap.IsCell c v → h'.IsCell c v := fun x c e v ⟨o, ho, hd⟩ => by
    have nch : c ∉ ch := fun z => (hch c z).2.2.1 x c e rfl
    by_cases hc : c ∈ X.fs
    · obtain ⟨sl, q⟩ := slot c o (I.cne x c e) hc nch ho (I.freeC x c e)
      exact ⟨_, q, hd⟩
    · exact ⟨o, keep c o (I.cne x c e) hc nch ho (I.freeC x c e), hd⟩
  refine ⟨I.ok, I.os, hg, ⟨fun b o e n hb hx => ?_, fun b o e n hb hx => ?_, fun b o e n hx => ?_, fun b o e hx => ?_, fun b xs e => tups b xs (I.base.tups b xs e), fun b o xs e => frzs b o xs (I.base.frzs b o xs e), fun b ps e => ?_⟩, ?_, fun x c e => ?_, ?_, fun x c e => ?_, fun p hp => ?_, hok, I.len⟩
  · exact keep b o (neL b o e) hb (neC b o e hx) (I.base.keep b o e n hb hx) (I.base.free b o e n hx)
  · obtain ⟨sl, e1⟩ := I.base.slot b o e n hb hx
    obtain ⟨sl', e2⟩ := slot b _ (neL b o e) hb (neC b o e hx) e1 (I.base.free b o e n hx)
    exact ⟨sl', e2⟩
  · obtain ⟨o', e1⟩ := I.base.there b o e hx
    exact free b o' (neC b o e hx) e1 (I.base.free b o e n hx)
  · obtain ⟨o', e1⟩ := I.base.there b o e hx
    exact there b o' (neC b o e hx) e1
  · obtain ⟨m1, e1⟩ := I.base.tbls b ps e
    obtain ⟨m2, e2⟩ := tbls b _ e1
    exact ⟨m1 ++ m2, by rw [e2, Array.append_assoc]⟩
  · obtain ⟨m, hn, hl⟩ := I.loc
    refine ⟨m, ns m hn, fun i x v e1 e2 e3 => ?_⟩
    obtain ⟨u, r, l⟩ := hl i x v e1 e2 e3
    refine ⟨u, r, ?_⟩
    rcases l with l | ⟨k, c, e, z⟩
    · exact .inl l
    · exact .inr ⟨k, c, e, cellK x c e _ z⟩
  · obtain ⟨v, z⟩ := I.cell x c e
    exact ⟨v, cellK x c e v z⟩
  · obtain ⟨m, ⟨o, _, _, ho, _⟩, _⟩ := I.loc
    exact free _ o (fun z => (hch _ z).2.1 rfl) ho I.free
  · obtain ⟨v, o, ho, hd⟩ := I.cell x c e
    exact free c o (fun z => (hch c z).2.2.1 x c e rfl) ho (I.freeC x c e)
  · obtain ⟨e, n, ne, nf, d⟩ := I.pin p hp
    have nch : p.1 ∉ ch := fun z => (hch p.1 z).2.2.2 p hp rfl
    exact ⟨keep p.1 p.2 ne nf nch e n, free p.1 p.2 nch e n, ne, nf, d⟩
/-- .. where the frame's own object is kept too -/
theorem Inv.un {t' : Nat} (I : Inv X pins σ H s) (u : Un X.fs [] H H' s.heap h') (hok : HOk X.prog X.w H' h') : Inv X pins σ H' { s with heap := h', toks := t' } := by
  obtain ⟨m, ⟨o, es, ep, ho, r⟩, _⟩ := id I.loc
  obtain ⟨sl, hL⟩ := u.any ho I.free (by simp)
  exact I.step (g' := s.gens) (d' := s.drawn) (ch := []) (fun _ z => nomatch z) (fun b o _ hb _ e n => u.keep b o e n hb (by simp)) (fun b o _ hb _ e n => u.slot b o e n hb (by simp)) (fun b o _ e n => u.free b o e n (by simp)) (fun b o _ e => u.there b o e (by simp)) u.tups u.frzs u.tbls (fun m' hm => by
    obtain ⟨o', es', ep', ho', r'⟩ := hm
    rw [ho] at ho'; cases ho'
    exact ⟨_, es', ep', hL, r'⟩) hok I.bare
/-- behind a call (or a comprehension's block): the slots of this frame may have changed too, the records at ch may have turned -/
theorem Inv.call {g' : Array GenState} {t' : Nat} {d' : Drawn} {ch : List Addr} (I : Inv X pins σ H s) (u : Un (frs X.stack) ch H H' s.heap h') (hok : HOk X.prog X.w H' h') (hg : AllBare g')
    (hch : ∀ b ∈ ch, (b ∈ X.ex ∨ X.s_0.heap.objs.size ≤ b) ∧ b ≠ X.env.locals ∧ (∀ x c, X.env.cells.lookup x = some c → c ≠ b) ∧ ∀ p ∈ X.pn ++ pins, p.1 ≠ b) :
    Inv X pins σ H' { s with heap := h', gens := g', drawn := d', toks := t' } := by
  obtain ⟨m, ⟨o, es, ep, ho, r⟩, _⟩ := id I.loc
  obtain ⟨sl, hL⟩ := u.any ho I.free fun z => (hch _ z).2.1 rfl
  exact I.step (ch := ch) hch (fun b o hL hb hc e n => u.keep b o e n (fun z => (List.mem_cons.mp (I.stkSub b z)).elim hL hb) hc) (fun b o _ _ hc e n => u.any e n hc) (fun b o hc e n => u.free b o e n hc) (fun b o hc e => u.there b o e hc) u.tups u.frzs u.tbls (fun m' hm => by
    obtain ⟨o', es', ep', ho', r'⟩ := hm
    rw [ho] at ho'; cases ho'
    exact ⟨_, es', ep', hL, r'⟩) hok hg
/-- an untracked record of ours (an iterator) has turned -/
theorem Inv.turned {t' : Nat} {it : Addr} (I : Inv X pins σ H s) (k : ∀ b o, b ≠ it → s.heap.get? b = some o → h'.get? b = some o) (hn : H it = none) (hL : it ≠ X.env.locals)
    (h1 : it ∈ X.ex ∨ X.s_0.heap.objs.size ≤ it) (h2 : ∀ x c, X.env.cells.lookup x = some c → c ≠ it) (h3 : ∀ p ∈ X.pn ++ pins, p.1 ≠ it) : Inv X pins σ H { s with heap := h', toks := t' } := by
  have nit : ∀ b u, H b = some u → b ≠ it := fun b u e z => by rw [z, hn] at e; cases e
  refine I.step (g' := s.gens) (d' := s.drawn) (ch := [it]) (fun b hb => ?_) (fun b o _ _ hc e _ => k b o (fun z => hc (by simp [z])) e) (fun b o _ _ hc e _ => ⟨o.slots, k b o (fun z => hc (by simp [z])) e⟩) (fun _ _ _ _ n => n)
    (fun b o hc e => ⟨o, k b o (fun z => hc (by simp [z])) e⟩) (fun _ _ e => e) (fun _ _ _ e => e) (fun b ps e => ⟨#[], by rw [e]; simp⟩) (fun m hm => ?_) (fun b u e => ?_) I.bare
  · have e : b = it := by simpa using hb
    subst e
    exact ⟨h1, hL, h2, h3⟩
  · obtain ⟨o, es, ep, ho, r⟩ := hm
    exact ⟨o, es, ep, k _ o (Ne.symm hL) ho, r⟩
  · refine (I.hok b u e).stay (fun c v hc q => k c v ?_ q) (fun _ q => q) fun _ _ q => q
    rcases hc with z | z
    · rw [z]; exact nit b u e
    · exact nit c _ z
theorem Inv.tok (I : Inv X pins σ H s) (t : Nat) : Inv X pins σ H { s with toks := t } := I.un (h' := s.heap) (t' := t) Un.refl I.hok
/-- all objects kept -/
theorem Inv.kept {t' : Nat} (I : Inv X pins σ H s) (k : ∀ b u, s.heap.get? b = some u → h'.get? b = some u) : Inv X pins σ H { s with heap := h', toks := t' } := I.un (Un.kept k) (I.hok.kept k)
/-- a new object laid and tracked -/
theorem Inv.laid {a : Addr} {o : HO} {t' : Nat} (I : Inv X pins σ H s) (k : ∀ b u, s.heap.get? b = some u → h'.get? b = some u) (hp : s.heap.objs.size ≤ a) (new : ObjOk X.prog X.w (upd H a o) h' a o) :
    Inv X pins σ (upd H a o) { s with heap := h', toks := t' } := I.un (Un.laid k hp (I.hok.fresh hp)) (I.hok.laid k hp new)
/-- an object written -/
theorem Inv.write {x e : Addr} {o : HO} {t' : Nat} (I : Inv X pins σ H s) (mu : Mut (H x)) (he : e = x ∨ H e = some (.own x)) (k : ∀ b u, b ≠ e → s.heap.get? b = some u → h'.get? b = some u) (heo : ∃ u, h'.get? e = some u)
    (new : ObjOk X.prog X.w (upd H x o) h' x o) : Inv X pins σ (upd H x o) { s with heap := h', toks := t' } := I.un (Un.write mu he k heo) (I.hok.write mu he k heo new)
/-- forgetting slots, pins -/
theorem Inv.weak {σ' : List (Option V)} (I : Inv X pins σ H s) (hl : σ'.length = σ.length) (w : ∀ (i : Nat) v, σ'[i]? = some (some v) → σ[i]? = some (some v)) : Inv X pins σ' H s :=
  ⟨I.ok, I.os, I.bare, I.base, let ⟨m, hn, hl'⟩ := I.loc; ⟨m, hn, fun i x v e1 e2 e3 => hl' i x v e1 (w i v e2) e3⟩, I.cell, I.free, I.freeC, I.pin, I.hok, hl.trans I.len⟩
theorem Inv.pins_of {pins' : List (Addr × Obj)} (I : Inv X pins σ H s) (h : ∀ p ∈ pins', s.heap.get? p.1 = some p.2 ∧ H p.1 = none ∧ p.1 ≠ X.env.locals ∧ p.1 ∉ X.fs ∧ ∀ v, p.2.data ≠ .cell v) : Inv X pins' σ H s :=
  ⟨I.ok, I.os, I.bare, I.base, I.loc, I.cell, I.free, I.freeC, fun p hp => (List.mem_append.mp hp).elim (fun z => I.pin p (List.mem_append_left _ z)) (h p), I.hok, I.len⟩
theorem nodup_ix {N : List Str} (hN : N.Nodup) {i j : Nat} {x : Str} (a : N[i]? = some x) (b : N[j]? = some x) : i = j := by
  obtain ⟨h1, e1⟩ := List.getElem?_eq_some_iff.mp a
  obtain ⟨h2, e2⟩ := List.getElem?_eq_some_iff.mp b
  exact (List.getElem_inj hN).mp (e1.trans e2.symm)
/-- a name is stored; what changed -/
theorem store_ok2 {M : Model} {A : Around} {E : Value → Shared → Prop} {i : Nat} {x : Str} {v : V} {u : Value} {Q : Unit → Shared → Prop} (I : Inv X pins σ H s) (hN : X.N.Nodup) (hi : X.N[i]? = some x) (hx : Loc X.env.scope x) (r : RelV v u)
    (h : ∀ s', Inv X pins (σ.set i (some v)) H s' → (∃ a, Heap.SameBut a s.heap s'.heap ∧ (a = X.env.locals ∨ X.env.cells.lookup x = some a)) → Q () s') (hf : X.fn x = true ∨ X.env.scope.names.lookup x = some .local := by first | exact .inl rfl | exact .inr rfl | assumption) : wpAny M A (storeName X.env x u) Q E s := by
  obtain ⟨m, hn, hl⟩ := id I.loc
  have hcls : (X.env.scope.kind == .class || (X.env.scope.kind == .module && X.env.locals != X.env.globals)) = false := by rw [I.ok.kind]; rfl
  have hiσ : i < σ.length := by rw [I.len]; exact (List.getElem?_eq_some_iff.mp hi).1
  have cne := I.cne
  have tracked : ∀ {a : Addr} {h' : Heap}, (∃ o, s.heap.get? a = some o ∧ H a = none) → Heap.SameBut a s.heap h' → HOk X.prog X.w H h' := fun {a h'} ha hs b ob e => by
    obtain ⟨_, _, hfree⟩ := ha
    refine (I.hok b ob e).stay (fun c w' hc q => (hs.2 c ?_).trans q) (fun _ q => q) fun _ _ q => q
    rintro rfl
    rcases hc with rfl | hc
    · rw [hfree] at e; cases e
    · rw [hfree] at hc; cases hc
  rcases hx with hk | hk
  · refine wpAny_storeName_local hk hn (fun h' hn' hs => ?_) hcls
    obtain ⟨oL, _, _, hoL, _⟩ := id hn
    refine h _ ⟨I.ok, I.os, I.bare, ⟨fun b o e n hb hx => ?_, fun b o e n hb hx => ?_, I.base.free, fun b o e hx => ?_, I.base.tups, I.base.frzs, I.base.tbls⟩, ⟨_, hn', fun j y v' e1 e2 e3 => ?_⟩, fun y c e => ?_, I.free, I.freeC, fun p hp => ?_, tracked ⟨oL, hoL, I.free⟩ hs, by simpa using I.len⟩ ⟨_, hs, .inl rfl⟩
    · exact (hs.2 b (Nat.ne_of_lt (Nat.lt_of_lt_of_le (Heap.lt_size e) I.ok.above))).trans (I.base.keep b o e n hb hx)
    · obtain ⟨sl, e1⟩ := I.base.slot b o e n hb hx
      exact ⟨sl, (hs.2 b (Nat.ne_of_lt (Nat.lt_of_lt_of_le (Heap.lt_size e) I.ok.above))).trans e1⟩
    · obtain ⟨o', e1⟩ := I.base.there b o e hx
      exact ⟨o', (hs.2 b (Nat.ne_of_lt (Nat.lt_of_lt_of_le (Heap.lt_size e) I.ok.above))).trans e1⟩
    · by_cases hj : j = i
      · subst hj
        rw [hi] at e1; cases e1
        rw [List.getElem?_set_self hiσ] at e2
        cases e2
        exact ⟨u, r, .inl ⟨hk, by simp⟩⟩
      · rw [List.getElem?_set_ne (Ne.symm hj)] at e2
        obtain ⟨u', r', q⟩ := hl j y v' e1 e2 e3
        refine ⟨u', r', ?_⟩
        rcases q with ⟨k, e⟩ | ⟨k, c, e, z⟩
        · refine .inl ⟨k, ?_⟩
          have : y ≠ x := fun e => hj (nodup_ix hN e1 (e ▸ hi))
          simp [this, e]
        · exact .inr ⟨k, c, e, z.sameBut hs (cne y c e)⟩
    · obtain ⟨w', z⟩ := I.cell y c e
      exact ⟨w', z.sameBut hs (cne y c e)⟩
    · obtain ⟨e, n, ne, nf, d⟩ := I.pin p hp
      exact ⟨(hs.2 p.1 ne).trans e, n, ne, nf, d⟩
  · have hfn : X.fn x = true := by
      rcases hf with z | z
      · exact z
      · rw [z] at hk; cases hk
    obtain ⟨c, hc⟩ := I.ok.has x (.inl hk)
    obtain ⟨w', z⟩ := I.cell x c hc
    refine wpAny_storeName_cell I.ok.kind hk hc z (fun h' hc' hs => ?_)
    obtain ⟨oc, hoc, hocd⟩ := id z
    refine h { s with heap := h' } ⟨I.ok, I.os, I.bare, ⟨fun b o e n hb hx => ?_, fun b o e n hb hx => ?_, I.base.free, fun b o e hx => ?_, I.base.tups, I.base.frzs, I.base.tbls⟩, ⟨m, hn.sameBut hs (Ne.symm (cne x c hc)), fun j y v' e1 e2 e3 => ?_⟩, fun y c' e => ?_, I.free, I.freeC, fun p hp => ?_, tracked ⟨oc, hoc, I.freeC x c hc⟩ hs, by simpa using I.len⟩ ⟨c, hs, .inr hc⟩
    · exact (hs.2 b (Nat.ne_of_lt (Nat.lt_of_lt_of_le (Heap.lt_size e) (I.ok.cab x c hfn hc)))).trans (I.base.keep b o e n hb hx)
    · obtain ⟨sl, e1⟩ := I.base.slot b o e n hb hx
      exact ⟨sl, (hs.2 b (Nat.ne_of_lt (Nat.lt_of_lt_of_le (Heap.lt_size e) (I.ok.cab x c hfn hc)))).trans e1⟩
    · obtain ⟨o', e1⟩ := I.base.there b o e hx
      exact ⟨o', (hs.2 b (Nat.ne_of_lt (Nat.lt_of_lt_of_le (Heap.lt_size e) (I.ok.cab x c hfn hc)))).trans e1⟩
    · by_cases hj : j = i
      · subst hj
        rw [hi] at e1; cases e1
        rw [List.getElem?_set_self hiσ] at e2
        cases e2
        exact ⟨u, r, .inr ⟨.inl hk, c, hc, hc'⟩⟩
      · rw [List.getElem?_set_ne (Ne.symm hj)] at e2
        obtain ⟨u', r', q⟩ := hl j y v' e1 e2 e3
        refine ⟨u', r', ?_⟩
        rcases q with q | ⟨k, c', e, z'⟩
        · exact .inl q
        · refine .inr ⟨k, c', e, z'.sameBut hs ?_⟩
          rintro rfl
          exact hj (nodup_ix hN e1 (I.ok.inj _ _ _ e hc ▸ hi))
    · by_cases hcc : c' = c
      · subst hcc; exact ⟨_, hc'⟩
      · obtain ⟨w2, z2⟩ := I.cell y c' e
        exact ⟨w2, z2.sameBut hs hcc⟩
    · obtain ⟨e, n, ne, nf, d⟩ := I.pin p hp
      refine ⟨(hs.2 p.1 ?_).trans e, n, ne, nf, d⟩
      intro q
      rw [q, hoc] at e
      have q' : oc = p.2 := Option.some.inj e
      exact d w' (by rw [← q']; exact hocd)
theorem store_ok {M : Model} {A : Around} {E : Value → Shared → Prop} {i : Nat} {x : Str} {v : V} {u : Value} {Q : Unit → Shared → Prop} (I : Inv X pins σ H s) (hN : X.N.Nodup) (hi : X.N[i]? = some x) (hx : Loc X.env.scope x) (r : RelV v u)
    (h : ∀ s', Inv X pins (σ.set i (some v)) H s' → Q () s') (hf : X.fn x = true ∨ X.env.scope.names.lookup x = some .local := by first | exact .inl rfl | exact .inr rfl | assumption) : wpAny M A (storeName X.env x u) Q E s :=
  store_ok2 I hN hi hx r (fun s' I' _ => h s' I') hf
/-- behind a call or a block, the state as it is -/
theorem Inv.call' {s' : Shared} {ch : List Addr} (I : Inv X pins σ H s) (ho : s'.os = s.os) (u : Un (frs X.stack) ch H H' s.heap s'.heap) (hok : HOk X.prog X.w H' s'.heap) (hg : AllBare s'.gens)
    (hch : ∀ b ∈ ch, (b ∈ X.ex ∨ X.s_0.heap.objs.size ≤ b) ∧ b ≠ X.env.locals ∧ (∀ x c, X.env.cells.lookup x = some c → c ≠ b) ∧ ∀ p ∈ X.pn ++ pins, p.1 ≠ b) : Inv X pins σ H' s' := by
  obtain ⟨h', g', d', t', o'⟩ := s'
  have e : o' = s.os := ho
  subst e
  exact I.call (g' := g') (t' := t') (d' := d') u hok hg hch
end
/-! ### the judgements -/
/-- an exception: its class, its own dict's address (where it has one), the abstract heap behind it -/
abbrev XK := Value → Option Addr → Hp → Prop
abbrev St := List (Option V)
abbrev VK := V → Hp → Prop
/-- an expression's reading; a test's; an argument list's -/
abbrev TE := St → Hp → VK → Prop
abbrev TT := St → Hp → (Bool → Hp → Prop) → Prop
abbrev TA := St → Hp → (List V → Hp → Prop) → Prop
/-- what is wanted behind a statement -/
structure Ends where
  nx : St → Hp → Prop
  rt : VK
  bk : St → Hp → Prop := fun _ _ => False
  ct : St → Hp → Prop := fun _ _ => False
abbrev TS := Ends → St → Hp → Prop
def EP (X : Cx) (pins : List (Addr × Obj)) (σ : St) (Q : VK) (u : Value) (s' : Shared) : Prop := ∃ v H', Inv X pins σ H' s' ∧ RelV v u ∧ Q v H'
def TP (X : Cx) (pins : List (Addr × Obj)) (σ : St) (Q : Bool → Hp → Prop) (b : Bool) (s' : Shared) : Prop := ∃ H', Inv X pins σ H' s' ∧ Q b H'
def AP (X : Cx) (pins : List (Addr × Obj)) (σ : St) (Q : List V → Hp → Prop) (us : List Value) (s' : Shared) : Prop := ∃ vs H', Inv X pins σ H' s' ∧ Vals vs us ∧ Q vs H'
def SP (X : Cx) (pins : List (Addr × Obj)) (D : Ends) (f : Flow) (s' : Shared) : Prop :=
  match f with
  | .next => ∃ σ' H', Inv X pins σ' H' s' ∧ D.nx σ' H'
  | .brk => ∃ σ' H', Inv X pins σ' H' s' ∧ D.bk σ' H'
  | .cont => ∃ σ' H', Inv X pins σ' H' s' ∧ D.ct σ' H'
  | .ret u => ∃ v σ' H', Inv X pins σ' H' s' ∧ RelV v u ∧ D.rt v H'
def PE (X : Cx) (e : Expr) (t : TE) : Prop :=
  ∀ (pins : List (Addr × Obj)) (s : Shared) (σ : St) (H : Hp) (Q : VK), Inv X pins σ H s → t σ H Q → wpAny (model X.prog X.w) X.A (eval e X.env) (EP X pins σ Q) X.xe s
def PT (X : Cx) (e : Expr) (t : TT) : Prop :=
  ∀ (pins : List (Addr × Obj)) (s : Shared) (σ : St) (H : Hp) (Q : Bool → Hp → Prop), Inv X pins σ H s → t σ H Q → wpAny (model X.prog X.w) X.A (isTrue e X.env (eval e X.env)) (TP X pins σ Q) X.xe s
/-- a test whatever its 'whole' is (and, or) -/
def PW (X : Cx) (e : Expr) (t : TT) : Prop :=
  ∀ (whole : Sem Value) (pins : List (Addr × Obj)) (s : Shared) (σ : St) (H : Hp) (Q : Bool → Hp → Prop), Inv X pins σ H s → t σ H Q → wpAny (model X.prog X.w) X.A (isTrue e X.env whole) (TP X pins σ Q) X.xe s
theorem PW.pt {X : Cx} {e : Expr} {t : TT} (h : PW X e t) : PT X e t := h _
/-- an argument list (no star), from the left -/
def PA (X : Cx) (es : List Expr) (t : TA) : Prop :=
  ∀ (pos : Pos) (pins : List (Addr × Obj)) (s : Shared) (σ : St) (H : Hp) (Q : List V → Hp → Prop), Inv X pins σ H s → t σ H Q → wpAny (model X.prog X.w) X.A (spliced (backTo pos (starEach es X.env))) (AP X pins σ Q) X.xe s
def PS (X : Cx) (st : Stmt) (t : TS) : Prop :=
  ∀ (pins : List (Addr × Obj)) (s : Shared) (σ : St) (H : Hp) (D : Ends), Inv X pins σ H s → t D σ H → wpAny (model X.prog X.w) X.A (exec st X.env) (SP X pins D) X.xe s
def PSs (X : Cx) (st : List Stmt) (t : TS) : Prop :=
  ∀ (pins : List (Addr × Obj)) (s : Shared) (σ : St) (H : Hp) (D : Ends), Inv X pins σ H s → t D σ H → wpAny (model X.prog X.w) X.A (execs st X.env) (SP X pins D) X.xe s
/-- weaken the end -/
theorem thn {α : Type} {t : Sem α} {Q Q' : α → Shared → Prop} {M : Model} {A : Around} {E : Value → Shared → Prop} {s : Shared} (h : wpAny M A t Q E s) (hQ : ∀ a s, Q a s → Q' a s) : wpAny M A t Q' E s := wpAny_mono h hQ fun _ _ x => x
end L2
namespace L2
open PySem PySem.Spec PyProof.Rows
section
variable {X : Cx}
/-- two expressions in a row -/
theorem bin {a b : Expr} {ta tb : TE} (ha : PE X a ta) (hb : PE X b tb) {pins : List (Addr × Obj)} {s : Shared} {σ : St} {H : Hp} {R : V → V → Hp → Prop} (I : Inv X pins σ H s) (h : ta σ H fun x H1 => tb σ H1 fun y H2 => R x y H2)
    {α : Type} {Q : α → Shared → Prop} {f : Value → Value → Sem α}
    (hf : ∀ v u s2 x y H2, Inv X pins σ H2 s2 → RelV x v → RelV y u → R x y H2 → wpAny (model X.prog X.w) X.A (f v u) Q X.xe s2) :
    wpAny (model X.prog X.w) X.A (eval a X.env) (fun v s₁ => wpAny (model X.prog X.w) X.A (eval b X.env) (fun u s₂ => wpAny (model X.prog X.w) X.A (f v u) Q X.xe s₂) X.xe s₁) X.xe s := by
  refine thn (ha pins s σ H _ I h) fun v s1 ⟨x, H1, I1, r1, q1⟩ => ?_
  refine thn (hb pins s1 σ H1 _ I1 q1) fun u s2 ⟨y, H2, I2, r2, q2⟩ => ?_
  exact hf v u s2 x y H2 I2 r1 r2 q2
/-! ### names and constants -/
def tVar (i : Nat) : TE := fun σ H Q => ∃ v, σ[i]? = some (some v) ∧ Q v H
def tC (v : V) : TE := fun _ H Q => Q v H
theorem pe_var {i : Nat} {x : Str} {pos : Pos} (hN : X.N[i]? = some x) (hv : Vis X.env.scope x) (hd : (x == ("__debug__" : Str)) = false := by decide) (hcd : (x == ("__classdict__" : Str)) = false := by decide) : PE X (.Name x pos) (tVar i) := by
  intro pins s σ H Q I h
  obtain ⟨v, e, h⟩ := h
  obtain ⟨m, hn, hl⟩ := I.loc
  obtain ⟨u, r, l⟩ := hl i x v hN e hv
  have fin : EP X pins σ Q u s := ⟨v, H, I, r, h⟩
  rcases l with ⟨hk, hm⟩ | ⟨hk, c, hc, hcell⟩
  · exact wpAny_Name (wpAny_loadName_local I.ok.kind hk hn hm fin) hd
  · rcases hk with hk | hk
    · exact wpAny_Name (wpAny_loadName_cell I.ok.kind hk hc hcell fin) hd
    · exact wpAny_Name (wpAny_loadName_free I.ok.kind hk hc hcell fin hcd) hd
theorem pe_int {i j pos} : PE X (.Constant (.int i) j pos) (tC (.int i)) := fun _ _ _ H _ I h => wpAny_Constant_int ⟨.int i, H, I.tok _, ⟨_, rfl⟩, h⟩
theorem pe_bl {b j pos} : PE X (.Constant (.bool b) j pos) (tC (.bl b)) := fun _ _ _ H _ I h => Constant_bool ⟨.bl b, H, I, rfl, h⟩
theorem pe_non {j pos} : PE X (.Constant .none j pos) (tC .non) := fun _ _ _ H _ I h => Constant_none ⟨.non, H, I, rfl, h⟩
theorem pe_str {x j pos} : PE X (.Constant (.str x) j pos) (tC (.str x)) := fun _ _ _ H _ I h => Calls.Constant_str ⟨.str x, H, I.tok _, ⟨_, rfl⟩, h⟩
/-- a global name of the def -/
def Gl (X : Cx) (x : Str) : Prop := X.env.kindOf x = some .globalImplicit
theorem ld_glob {E : Value → Shared → Prop} {pins : List (Addr × Obj)} {s : Shared} {σ : St} {H : Hp} {x : Str} {u : Value} {pos : Pos} {Q : Value → Shared → Prop} (I : Inv X pins σ H s) (hg : Gl X x) (hm : X.mg x = some u) (h : Q u s)
    (hd : (x == ("__debug__" : Str)) = false := by decide) : wpAny (model X.prog X.w) X.A (eval (.Name x pos) X.env) Q E s :=
  Calls.Name_function_global I.ok.kind hg (Calls.loadGlobal_global (by rw [I.ok.glob]; exact I.mod.glob.keeps I.bk) hm h) hd
theorem ld_blt {E : Value → Shared → Prop} {pins : List (Addr × Obj)} {s : Shared} {σ : St} {H : Hp} {x : Str} {u : Value} {pos : Pos} {Q : Value → Shared → Prop} (I : Inv X pins σ H s) (hg : Gl X x) (hm : X.mg x = none) (hv : bootBuiltins x = some u) (h : Q u s)
    (hn : x ≠ "__name__" := by decide) (hd : (x == ("__debug__" : Str)) = false := by decide) : wpAny (model X.prog X.w) X.A (eval (.Name x pos) X.env) Q E s := by
  obtain ⟨mb, h1, h2⟩ := I.mod.blt
  exact Calls.Name_function_global I.ok.kind hg (Calls.loadGlobal_builtin (by rw [I.ok.glob]; exact I.mod.glob.keeps I.bk) hm (by rw [I.ok.blt]; exact h1.keeps I.bk) ((h2 x hn).trans hv) h) hd
/-- a module's constant, a class, a function, as a value -/
theorem pe_glob {x : Str} {v : V} {u : Value} {pos : Pos} (hg : Gl X x) (hm : X.mg x = some u) (r : RelV v u) (hd : (x == ("__debug__" : Str)) = false := by decide) : PE X (.Name x pos) (tC v) :=
  fun _ _ _ H _ I h => ld_glob I hg hm ⟨v, H, I, r, h⟩ hd
/-! ### arithmetic -/
variable {a b : Expr} {ta tb : TE} {pos : Pos}
/-! ### comparisons -/
def PC (X : Cx) (op : CmpOp) (a b : Expr) (t : TE) : Prop :=
  ∀ (pins : List (Addr × Obj)) (s : Shared) (σ : St) (H : Hp) (Q : VK), Inv X pins σ H s → t σ H Q →
    wpAny (model X.prog X.w) X.A (eval a X.env) (fun v s₁ => wpAny (model X.prog X.w) X.A (eval b X.env) (fun u s₂ => wpAny (model X.prog X.w) X.A (compareOp op v u) (EP X pins σ Q) X.xe s₂) X.xe s₁) X.xe s
theorem nobehind (b : Expr) {op : CmpOp} (h : op ≠ .In) (h2 : op ≠ .NotIn) : behindInMarks op b = false := by
  have e1 : (op == CmpOp.In) = false := by cases op <;> first | rfl | exact absurd rfl h
  have e2 : (op == CmpOp.NotIn) = false := by cases op <;> first | rfl | exact absurd rfl h2
  cases b <;> simp [behindInMarks, e1, e2]
/-- is None -/
def tIsN (ta : TE) : TE := fun σ H Q => ta σ H fun x H1 => Q (.bl (decide (x = .non))) H1
def tNotN (ta : TE) : TE := fun σ H Q => ta σ H fun x H1 => Q (.bl (!decide (x = .non))) H1
theorem RelV.none_iff {x : V} {v : Value} (r : RelV x v) : (v == Value.none) = decide (x = .non) := by
  cases x with
  | non => cases r; rfl
  | bl _ => cases r; rfl
  | int _ => obtain ⟨t, rfl⟩ := r; rfl
  | str _ => obtain ⟨t, rfl⟩ := r; rfl
  | byt _ => obtain ⟨t, rfl⟩ := r; rfl
  | flt _ => obtain ⟨t, rfl⟩ := r; rfl
  | ref _ => cases r; rfl
  | ty _ => cases r; rfl
theorem pc_isN {j pos'} (ha : PE X a ta) : PC X .Is a (.Constant .none j pos') (tIsN ta) := by
  intro pins s σ H Q I h
  refine thn (ha pins s σ H _ I h) fun v s1 ⟨x, H1, I1, r1, q1⟩ => ?_
  exact Constant_none (is_none_gen ⟨.bl _, H1, I1, by rw [r1.none_iff]; rfl, q1⟩)
theorem pc_notN {j pos'} (ha : PE X a ta) : PC X .IsNot a (.Constant .none j pos') (tNotN ta) := by
  intro pins s σ H Q I h
  refine thn (ha pins s σ H _ I h) fun v s1 ⟨x, H1, I1, r1, q1⟩ => ?_
  exact Constant_none (isnot_none_gen ⟨.bl _, H1, I1, by rw [r1.none_iff]; rfl, q1⟩)
/-- a comparison as a value, as a test -/
def tB (t : TE) : TT := fun σ H Q => t σ H fun x H1 => ∃ c, x = .bl c ∧ Q c H1
theorem pt_cmp {op : CmpOp} {t : TE} (h : PC X op a b t) (h1 : behindInMarks op b = false := by first | exact nobehind _ (by decide) (by decide) | rfl) : PT X (.Compare a [op] [b] pos) (tB t) := by
  intro pins s σ H Q I hw
  refine wpAny_isTrue_Compare1 (thn (h pins s σ H _ I hw) fun v s1 h1 => thn h1 fun u s2 h2 => thn h2 fun c s3 ⟨x, H1, I1, r1, q1⟩ => ?_) h1
  obtain ⟨d, rfl, q⟩ := q1
  cases r1
  exact wpAny_truthy_bool ⟨H1, I1, q⟩
/-- an expression whose value is a bool, as a test -/
theorem pt_val {e : Expr} {t : TE} (h : PE X e t) (he : ∀ whole, isTrue e X.env whole = (do let v ← whole; standAt e.pos; holding [v] (truthy v)) := by intro _; rfl) : PT X e (tB t) := by
  intro pins s σ H Q I hw
  refine isTrue_plain (thn (h pins s σ H _ I hw) fun v s1 ⟨x, H1, I1, r1, q1⟩ => ?_) (he _)
  obtain ⟨d, rfl, q⟩ := q1
  cases r1
  exact wpAny_truthy_bool ⟨H1, I1, q⟩
/-! ### and, or, not -/
variable {tA tB' : TT} {rest : List Expr}
def tOr (t u : TT) : TT := fun σ H Q => t σ H fun c H1 => if c = true then Q true H1 else u σ H1 Q
def tNot (t : TT) : TT := fun σ H Q => t σ H fun c H1 => Q (!c) H1
theorem pw_or1 (ha : PT X a tA) : PW X (.BoolOp .Or [a] pos) tA := by
  intro wh pins s σ H Q I h
  refine isTrue_or (thn (ha pins s σ H Q I h) fun c s1 e => ?_)
  cases c with
  | false => exact isTrue_or_nil e
  | true => exact e
theorem pw_or (ha : PT X a tA) (hb : PW X (.BoolOp .Or (b :: rest) pos) tB') : PW X (.BoolOp .Or (a :: b :: rest) pos) (tOr tA tB') := by
  intro wh pins s σ H Q I h
  refine isTrue_or (thn (ha pins s σ H _ I h) fun c s1 ⟨H1, I1, q1⟩ => ?_)
  cases c with
  | true => exact ⟨H1, I1, q1⟩
  | false => exact hb wh pins s1 σ H1 Q I1 q1
theorem pt_not (ha : PT X a tA) : PT X (.UnaryOp .Not a pos) (tNot tA) := by
  intro pins s σ H Q I h
  exact isTrue_not (ha pins s σ H (fun c H1 => Q (!c) H1) I h)
/-- .. as values (bools) -/
def tAndV (ta tb : TE) : TE := fun σ H Q => ta σ H fun x H1 => ∃ c, x = .bl c ∧ if c = true then tb σ H1 Q else Q (.bl false) H1
def tNotV (ta : TE) : TE := fun σ H Q => ta σ H fun x H1 => ∃ c, x = .bl c ∧ Q (.bl (!c)) H1
theorem pe_one {op} {t : TE} (h : PE X a t) : PE X (.BoolOp op [a] pos) t := fun pins s σ H Q I hw => BoolOp_one (h pins s σ H Q I hw)
theorem pe_and (ha : PE X a ta) (hb : PE X (.BoolOp .And (b :: rest) pos) tb) : PE X (.BoolOp .And (a :: b :: rest) pos) (tAndV ta tb) := by
  intro pins s σ H Q I h
  refine BoolOp_and (thn (ha pins s σ H _ I h) fun v s1 ⟨x, H1, I1, r1, q1⟩ => ?_)
  obtain ⟨c, rfl, q1⟩ := q1
  cases r1
  refine wpAny_truthy_bool ?_
  cases c with
  | true => exact hb pins s1 σ H1 Q I1 q1
  | false => exact ⟨.bl false, H1, I1, rfl, q1⟩
theorem pe_not (ha : PE X a ta) : PE X (.UnaryOp .Not a pos) (tNotV ta) := by
  intro pins s σ H Q I h
  refine UnaryOp_ (thn (ha pins s σ H _ I h) fun v s1 ⟨x, H1, I1, r1, q1⟩ => ?_)
  obtain ⟨c, rfl, q1⟩ := q1
  cases r1
  exact not_of (wpAny_truthy_bool ⟨.bl (!c), H1, I1, rfl, q1⟩)
end
end L2
namespace L2
open PySem PySem.Spec PyProof.Rows
/-! ### a list, a tuple that is read: tracked, frozen, or an object of the module -/
def SqL (K : PySem.W.Frag) (H : Hp) (a : Addr) (xs : List V) : Prop :=
  Rd H a (.lst xs) ∨
    ∃ (o : Obj) (its : Array Value) (n : Nat), K.lookup a = some o ∧ o.cls = .type "list" ∧ o.dict = none ∧ o.data = .seq its n ∧ its.size ≤ sizeLine ∧ Vals xs its.toList
def SqT (K : PySem.W.Frag) (H : Hp) (a : Addr) (xs : List V) : Prop :=
  Rd H a (.tup xs) ∨
    ∃ (o : Obj) (its : Array Value) (n : Nat), K.lookup a = some o ∧ o.cls = .type "tuple" ∧ o.data = .seq its n ∧ its.size ≤ sizeLine ∧ Vals xs its.toList
def absV : Value → Option V
  | .none => some .non
  | .bool b => some (.bl b)
  | .int i _ => some (.int i)
  | .str x _ => some (.str x)
  | .bytes b _ => some (.byt b)
  | .float b _ => some (.flt b)
  | .ref a => some (.ref a)
  | .type n => some (.ty n)
  | _ => none
theorem RelV.abs {x : V} {u : Value} (r : RelV x u) : absV u = some x := by
  cases x with
  | non => cases r; rfl
  | bl _ => cases r; rfl
  | int _ => obtain ⟨t, rfl⟩ := r; rfl
  | str _ => obtain ⟨t, rfl⟩ := r; rfl
  | byt _ => obtain ⟨t, rfl⟩ := r; rfl
  | flt _ => obtain ⟨t, rfl⟩ := r; rfl
  | ref _ => cases r; rfl
  | ty _ => cases r; rfl
theorem RelV.inj {x y : V} {u : Value} (r : RelV x u) (q : RelV y u) : x = y := Option.some.inj (r.abs.symm.trans q.abs)
theorem Vals.inj : ∀ {xs ys : List V} {us : List Value}, Vals xs us → Vals ys us → xs = ys
  | _, _, _, .nil, .nil => rfl
  | _, _, _, .cons r t, .cons r' t' => by rw [r.inj r', Vals.inj t t']
section
variable {X : Cx} {pins : List (Addr × Obj)} {σ : St} {H : Hp} {s : Shared} {a : Addr} {xs ys : List V}
theorem SqL.of {K : PySem.W.Frag} (h : H a = some (.lst xs)) : SqL K H a xs := .inl (.inl h)
theorem SqT.of {K : PySem.W.Frag} (h : H a = some (.tup xs)) : SqT K H a xs := .inl (.inl h)
theorem Inv.list (I : Inv X pins σ H s) (h : SqL X.K H a xs) : ∃ its : List Value, Vals xs its ∧ PlainL s.heap a its.toArray ∧ xs.length ≤ sizeLine := by
  rcases h with h | ⟨o, its, n, hk, hc, hd, hs, hz, r⟩
  · obtain ⟨z, its, n, r, e⟩ := h.ok I.hok
    exact ⟨its, r, ⟨_, n, e, rfl, rfl, rfl⟩, z⟩
  · refine ⟨its.toList, r, ⟨o, n, I.kIn a o hk, hc, hd, by simpa using hs⟩, ?_⟩
    have e := r.length
    simp only [Array.length_toList] at e
    omega
theorem Inv.tuple (I : Inv X pins σ H s) (h : SqT X.K H a xs) : ∃ its : List Value, Vals xs its ∧ IsTup s.heap a its.toArray ∧ xs.length ≤ sizeLine := by
  rcases h with h | ⟨o, its, n, hk, hc, hs, hz, r⟩
  · obtain ⟨z, its, r, p⟩ := h.ok I.hok
    exact ⟨its, r, p, z⟩
  · refine ⟨its.toList, r, ⟨o, I.kIn a o hk, hc, n, by simpa using hs⟩, ?_⟩
    have e := r.length
    simp only [Array.length_toList] at e
    omega
theorem Inv.list_inj (I : Inv X pins σ H s) (h : SqL X.K H a xs) (h' : SqL X.K H a ys) : xs = ys := by
  obtain ⟨its, r, ⟨o, n, e, _, _, d⟩, _⟩ := I.list h
  obtain ⟨its', r', ⟨o', n', e', _, _, d'⟩, _⟩ := I.list h'
  rw [e] at e'; cases e'
  rw [d] at d'
  injection d' with d1 _
  have : its = its' := by simpa using congrArg Array.toList d1
  subst this
  exact r.inj r'
theorem Inv.tuple_inj (I : Inv X pins σ H s) (h : SqT X.K H a xs) (h' : SqT X.K H a ys) : xs = ys := by
  obtain ⟨its, r, ⟨o, e, _, n, d⟩, _⟩ := I.tuple h
  obtain ⟨its', r', ⟨o', e', _, n', d'⟩, _⟩ := I.tuple h'
  rw [e] at e'; cases e'
  rw [d] at d'
  injection d' with d1 _
  have : its = its' := by simpa using congrArg Array.toList d1
  subst this
  exact r.inj r'
end
/-! ### another wish about exceptions -/
abbrev Cx.wish (X : Cx) (E : Value → Shared → Prop) : Cx := { X with xe := E }
/-- no exception leaves -/
abbrev Cx.nox (X : Cx) : Cx := X.wish fun _ _ => False
theorem Cx.Ok.wish {X : Cx} (ok : X.Ok) (E : Value → Shared → Prop) : (X.wish E).Ok :=
  ⟨ok.mod, ok.kind, ok.glob, ok.blt, ok.above, ok.inj, ok.has, ok.cab, ok.hd, ok.frames, ok.stk, ok.exf, ok.bs, ok.bsz, ok.noex, ok.exfs, ok.funs, ok.frf⟩
theorem Cx.Ok.unwish {X : Cx} {E : Value → Shared → Prop} (ok : (X.wish E).Ok) : X.Ok :=
  ⟨ok.mod, ok.kind, ok.glob, ok.blt, ok.above, ok.inj, ok.has, ok.cab, ok.hd, ok.frames, ok.stk, ok.exf, ok.bs, ok.bsz, ok.noex, ok.exfs, ok.funs, ok.frf⟩
section
variable {X : Cx} {pins : List (Addr × Obj)} {σ : St} {H : Hp} {s : Shared} {E : Value → Shared → Prop}
theorem Inv.wish (I : Inv X pins σ H s) (E : Value → Shared → Prop) : Inv (X.wish E) pins σ H s := ⟨I.ok.wish E, I.os, I.bare, I.base, I.loc, I.cell, I.free, I.freeC, I.pin, I.hok, I.len⟩
theorem Inv.unwish (I : Inv (X.wish E) pins σ H s) : Inv X pins σ H s := ⟨I.ok.unwish, I.os, I.bare, I.base, I.loc, I.cell, I.free, I.freeC, I.pin, I.hok, I.len⟩
theorem SP.unwish {D : Ends} {f : Flow} {s' : Shared} (h : SP (X.wish E) pins D f s') : SP X pins D f s' := by
  cases f with
  | next => obtain ⟨σ', H', I, q⟩ := h; exact ⟨σ', H', I.unwish, q⟩
  | brk => obtain ⟨σ', H', I, q⟩ := h; exact ⟨σ', H', I.unwish, q⟩
  | cont => obtain ⟨σ', H', I, q⟩ := h; exact ⟨σ', H', I.unwish, q⟩
  | ret u => obtain ⟨v, σ', H', I, r, q⟩ := h; exact ⟨v, σ', H', I.unwish, r, q⟩
theorem PSs.nox {st : List Stmt} {t : TS} (h : PSs X.nox st t) : PSs X st t := fun pins s σ H D I hw =>
  wpAny_mono (h pins s σ H D (I.wish _) hw) (fun _ _ q => q.unwish) fun _ _ z => False.elim z
end
/-! ### blocks and small statements -/
section
variable {X : Cx} {st : Stmt} {rest : List Stmt} {t u : TS} {e : Expr} {te : TE} {pos : Pos}
def tNext : TS := fun D σ H => D.nx σ H
def tSeq (t u : TS) : TS := fun D σ H => t { D with nx := u D } σ H
theorem pss_nil : PSs X [] tNext := fun _ _ σ H _ I h => wpAny_execs_nil ⟨σ, H, I, h⟩
theorem pss_cons (h1 : PS X st t) (h2 : PSs X rest u) : PSs X (st :: rest) (tSeq t u) := by
  intro pins s σ H D I h
  refine wpAny_execs_cons (thn (h1 pins s σ H { D with nx := u D } I h) fun f s1 q => ?_)
  cases f with
  | next =>
    obtain ⟨σ', H', I', q⟩ := q
    exact h2 pins s1 σ' H' D I' q
  | ret v => exact q
  | brk => exact q
  | cont => exact q
theorem pss_one (h1 : PS X st t) : PSs X [st] t := by
  intro pins s σ H D I h
  refine wpAny_execs_cons (thn (h1 pins s σ H D I h) fun f s1 q => ?_)
  cases f with
  | next => exact wpAny_execs_nil q
  | ret v => exact q
  | brk => exact q
  | cont => exact q
/-- in a def's body nothing is shown -/
theorem Inv.quiet {pins : List (Addr × Obj)} {σ : St} {H : Hp} {s : Shared} (I : Inv X pins σ H s) : interactive X.env = false := by simp [interactive, I.ok.kind]
/-- an expression whose value is dropped -/
def tDrop (te : TE) : TS := fun D σ H => te σ H fun _ H1 => D.nx σ H1
theorem ps_expr (he : PE X e te) (hs : swapsWith e none pos.line X.env = pure false := by rfl) : PS X (.Expr e pos) (tDrop te) := by
  intro pins s σ H D I h
  exact wpAny_Expr_any (thn (he pins s σ H _ I h) fun v s1 ⟨x, H1, I1, r1, q1⟩ => ⟨σ, H1, I1, q1⟩) I.quiet hs
def tRet (te : TE) : TS := fun D σ H => te σ H D.rt
theorem ps_ret (he : PE X e te) : PS X (.Return (some e) pos) (tRet te) := by
  intro pins s σ H D I h
  exact wpAny_Return_some (thn (he pins s σ H _ I h) fun v s1 ⟨x, H1, I1, r1, q1⟩ => ⟨x, σ, H1, I1, r1, q1⟩)
def tIfS (c : TT) (t u : TS) : TS := fun D σ H => c σ H fun b H1 => if b = true then t D σ H1 else u D σ H1
theorem ps_if {c : Expr} {a b : List Stmt} {tc : TT} (hc : PT X c tc) (ha : PSs X a t) (hb : PSs X b u) : PS X (.If c a b pos) (tIfS tc t u) := by
  intro pins s σ H D I h
  refine wpAny_If (thn (hc pins s σ H _ I h) fun d s1 ⟨H1, I1, q1⟩ => ?_)
  cases d with
  | true => exact ha pins s1 σ H1 D I1 q1
  | false => exact hb pins s1 σ H1 D I1 q1
end
/-! ### targets -/
abbrev TG := V → St → Hp → (St → Hp → Prop) → Prop
abbrev TGs := List V → St → Hp → (St → Hp → Prop) → Prop
def PG (X : Cx) (target : Expr) (t : TG) : Prop :=
  ∀ (pins : List (Addr × Obj)) (s : Shared) (σ : St) (H : Hp) (v : V) (u : Value) (Q : St → Hp → Prop), Inv X pins σ H s → RelV v u → t v σ H Q →
    wpAny (model X.prog X.w) X.A (assign target X.env u) (fun _ s' => ∃ σ' H', Inv X pins σ' H' s' ∧ Q σ' H') X.xe s
/-- several targets, one after another -/
def PGs (X : Cx) (ts : List Expr) (t : TGs) : Prop :=
  ∀ (pins : List (Addr × Obj)) (s : Shared) (σ : St) (H : Hp) (vs : List V) (us : List Value) (Q : St → Hp → Prop), Inv X pins σ H s → Vals vs us → t vs σ H Q →
    wpAny (model X.prog X.w) X.A (assignInOrder ((assignEach ts X.env).map (·.2)) us) (fun _ s' => ∃ σ' H', Inv X pins σ' H' s' ∧ Q σ' H') X.xe s
section
variable {X : Cx} {pos : Pos}
def gName (i : Nat) : TG := fun v σ H Q => Q (σ.set i (some v)) H
theorem pg_name {i : Nat} {x : Str} (hN : X.N.Nodup) (hi : X.N[i]? = some x) (hx : Loc X.env.scope x) (hf : X.fn x = true ∨ X.env.scope.names.lookup x = some .local := by first | exact .inl rfl | exact .inr rfl | assumption) : PG X (.Name x pos) (gName i) := by
  intro pins s σ H v u Q I r h
  exact wpAny_assign_Name (store_ok I hN hi hx r (fun s' I' => ⟨_, H, I', h⟩) hf)
def gNil : TGs := fun vs σ H Q => vs = [] ∧ Q σ H
def gCons (t : TG) (u : TGs) : TGs := fun vs σ H Q => ∃ v r, vs = v :: r ∧ t v σ H fun σ' H' => u r σ' H' Q
theorem pgs_nil : PGs X [] gNil := by
  intro pins s σ H vs us Q I r h
  obtain ⟨e, h⟩ := h
  subst e
  cases r
  exact assignInOrder_nil ⟨σ, H, I, h⟩
theorem pgs_cons {e : Expr} {es : List Expr} {t : TG} {u : TGs} (h1 : PG X e t) (h2 : PGs X es u)
    (hs : (assignEach (e :: es) X.env).map (·.2) = assign e X.env :: (assignEach es X.env).map (·.2) := by rfl) : PGs X (e :: es) (gCons t u) := by
  intro pins s σ H vs us Q I r h
  obtain ⟨v, vr, e1, h⟩ := h
  subst e1
  cases r with
  | cons r rr =>
    rw [hs]
    refine assignInOrder_cons (thn (h1 pins s σ H _ _ _ I r h) fun _ s1 ⟨σ1, H1, I1, q1⟩ => ?_)
    exact h2 pins s1 σ1 H1 _ _ Q I1 rr q1
/-- (a, b, ..) = a tuple of that length -/
def gTup (K : PySem.W.Frag) (n : Nat) (t : TGs) : TG := fun v σ H Q => ∃ a xs, v = .ref a ∧ SqT K H a xs ∧ xs.length = n ∧ t xs σ H Q
theorem pg_tup {es : List Expr} {k : Nat} {t : TGs} {n : Nat} (hc : X.calm = true) (h : PGs X es t)
    (hn : (assignEach es X.env).length = n := by rfl) (hst : (assignEach es X.env).findIdx? (·.1) = none := by rfl) : PG X (.Tuple es k pos) (gTup X.K n t) := by
  intro pins s σ H v u Q I r hw
  obtain ⟨a, xs, e1, hq, hl, hw⟩ := hw
  subst e1
  cases r
  obtain ⟨its, rv, ht, hz⟩ := I.tuple hq
  refine assign_Tuple_tuple (I.ok.hd hc) ht (by simp [hn, ← hl, rv.length]) hst fun h' hx => ?_
  have I1 : Inv X pins σ H { s with heap := h' } := I.kept (t' := s.toks) fun b o e => hx b o (Nat.ne_of_lt (Heap.lt_size e)) e
  exact h pins _ σ H xs _ Q I1 (by simpa using rv) hw
/-- target = value -/
def tAsg (te : TE) (g : TG) : TS := fun D σ H => te σ H fun x H1 => g x σ H1 D.nx
/-- name = value -/
theorem ps_set {i : Nat} {x : Str} {e : Expr} {te : TE} {pos' : Pos} (hN : X.N.Nodup) (hi : X.N[i]? = some x) (hx : Loc X.env.scope x) (he : PE X e te) (hs : swapsWith e (some (.Name x pos')) pos.line X.env = pure false := by rfl) (hf : X.fn x = true ∨ X.env.scope.names.lookup x = some .local := by first | exact .inl rfl | exact .inr rfl | assumption) :
    PS X (.Assign [.Name x pos'] e pos) (tAsg te (gName i)) := by
  intro pins s σ H D I h
  refine wpAny_Assign_Name (thn (he pins s σ H _ I h) fun v s1 ⟨y, H1, I1, r1, q1⟩ => ?_) hs
  exact store_ok I1 hN hi hx r1 (fun s2 I2 => ⟨_, H1, I2, q1⟩) hf
end
/-! ### while -/
section
variable {X : Cx} {pos : Pos}
end
/-! ### what a loop or a comprehension walks -/
/-- at turn i: it yields x (the heap may grow), or it stops -/
structure It where
  go : Nat → Hp → Prop
  yld : Nat → Hp → V → Hp → Prop
  stop : Nat → Hp → Prop
/-- the iterator's own objects may turn: they are not the frame's, not pinned, younger than the entry (or a comprehension's own) -/
def FpOk (X : Cx) (pins : List (Addr × Obj)) (H : Hp) (b : Addr) : Prop :=
  H b = none ∧ b ≠ X.env.locals ∧ b ∉ X.fs ∧ (b ∈ X.ex ∨ X.s_0.heap.objs.size ≤ b) ∧ (∀ x c, X.env.cells.lookup x = some c → c ≠ b) ∧ ∀ p ∈ X.pn ++ pins, p.1 ≠ b
theorem Inv.fpOk {X : Cx} {pins : List (Addr × Obj)} {σ : St} {H H' : Hp} {s : Shared} {b : Addr} (I : Inv X pins σ H s) (hb : s.heap.objs.size ≤ b) (hn : H' b = none) : FpOk X pins H' b := by
  refine ⟨hn, Nat.ne_of_gt (Nat.lt_of_lt_of_le I.lt hb), I.nofs hb, .inr (Nat.le_trans I.sz hb), fun x c e z => ?_, fun p hp z => ?_⟩
  · obtain ⟨v, q⟩ := I.cell x c e
    exact absurd (Nat.lt_of_lt_of_le q.lt (by rw [z]; exact hb)) (Nat.lt_irrefl _)
  · exact absurd (Nat.lt_of_lt_of_le (Heap.lt_size (I.pin p hp).1) (by rw [z]; exact hb)) (Nat.lt_irrefl _)
structure Turn (P : Program) (w : World) (K : PySem.W.Frag) (tg : Expr) (J : It) (fp : List Addr) (it : Addr) (tn : Nat → Heap → Prop) : Prop where
  mem : it ∈ fp
  obj : ∀ i h, tn i h → ∀ b ∈ fp, ∃ o, h.get? b = some o ∧ ∀ v, o.data ≠ .cell v
  keep : ∀ i h h', tn i h → (∀ b ∈ fp, ∀ o, h.get? b = some o → h'.get? b = some o) → tn i h'
  item : ∀ (X : Cx), X.prog = P → X.w = w → X.K = K → X.calm = true → ∀ (i : Nat) (pins : List (Addr × Obj)) (s : Shared) (σ : St) (H : Hp) (E : Value → Shared → Prop), Inv X pins σ H s → (∀ b ∈ fp, FpOk X pins H b) → tn i s.heap → J.go i H →
    wpAny (model P w) X.A (pyNext (.ref it)) (fun r s1 => ∃ u, r = some u ∧
      wpAny (model P w) X.A (letOwnedTupleGo tg (.ref it) u) (fun _ s2 => ∃ x H', Inv X pins σ H' s2 ∧ RelV x u ∧ J.yld i H x H' ∧ tn (i + 1) s2.heap ∧ ∀ b ∈ fp, H' b = none) E s1) E s
  done : ∀ (X : Cx), X.prog = P → X.w = w → X.K = K → X.calm = true → ∀ (i : Nat) (pins : List (Addr × Obj)) (s : Shared) (σ : St) (H : Hp) (E : Value → Shared → Prop), Inv X pins σ H s → (∀ b ∈ fp, FpOk X pins H b) → tn i s.heap → J.stop i H →
    wpAny (model P w) X.A (pyNext (.ref it)) (fun r s1 => r = none ∧ Inv X pins σ H s1) E s
  self : ∀ (A : Around) (i : Nat) (s : Shared) (Q : Value → Shared → Prop) (E : Value → Shared → Prop), tn i s.heap → Q (.ref it) s → wpAny (model P w) A (pyIter (.ref it)) Q E s
abbrev TI := St → Hp → (It → Hp → Prop) → Prop
/-- an iterator has come -/
def PIE (X : Cx) (pins : List (Addr × Obj)) (σ : St) (tg : Expr) (R : It → Hp → Prop) (itv : Value) (s2 : Shared) : Prop :=
  ∃ (it : Addr) (fp : List Addr) (tn : Nat → Heap → Prop) (J : It) (H' : Hp), itv = .ref it ∧ Inv X pins σ H' s2 ∧ Turn X.prog X.w X.K tg J fp it tn ∧ tn 0 s2.heap ∧ (∀ b ∈ fp, FpOk X pins H' b) ∧ R J H'
def PI (X : Cx) (tg iter : Expr) (wi : TI) : Prop :=
  ∀ (pins : List (Addr × Obj)) (s : Shared) (σ : St) (H : Hp) (R : It → Hp → Prop), Inv X pins σ H s → wi σ H R →
    wpAny (model X.prog X.w) X.A (eval iter X.env) (fun v s1 => wpAny (model X.prog X.w) X.A (pyIter v) (PIE X pins σ tg R) X.xe s1) X.xe s
/-- the step ahead of the store is nothing for an iterator that keeps no tuple -/
theorem go_of {M : Model} {A : Around} {E : Value → Shared → Prop} {s : Shared} {tg : Expr} {it : Addr} {u : Value} {o : Obj} {n : String} {vs : Array Value} {Q : Unit → Shared → Prop} (ho : s.heap.get? it = some o) (hc : o.cls = .type n) (hd : o.data = .fields vs)
    (hn : ["enumerate", "zip", "dict_itemiterator", "dict_reverseitemiterator", "odict_iterator", "itertools.zip_longest", "itertools.pairwise"].contains n = false) (hQ : Q () s) : wpAny M A (letOwnedTupleGo tg (.ref it) u) Q E s := by
  unfold letOwnedTupleGo
  cases tg <;> first
    | exact wpAny_pure hQ
    | (cases u <;> first
        | exact wpAny_pure hQ
        | (refine wpAny_bind (wpAny_load ho ?_)
           rw [hc, hd]
           show wpAny M A (if (["enumerate", "zip", "dict_itemiterator", "dict_reverseitemiterator", "odict_iterator", "itertools.zip_longest", "itertools.pairwise"].contains n && vs[0]? == some (rawInt _)) = true then _ else _) Q E s
           rw [if_neg (by intro h; rw [hn, Bool.false_and] at h; cases h)]
           exact wpAny_pure hQ))
/-- the list at a, as it stands at each turn (a loop may append to it) -/
def Itl (K : PySem.W.Frag) (a : Addr) : It :=
  ⟨fun i H => ∃ xs x, SqL K H a xs ∧ xs[i]? = some x, fun i H x H' => H' = H ∧ ∀ xs, SqL K H a xs → xs[i]? = some x, fun i H => ∃ xs, SqL K H a xs ∧ xs.length ≤ i⟩
theorem turn_list {P : Program} {w : World} {K : PySem.W.Frag} {tg : Expr} (a it : Addr) : Turn P w K tg (Itl K a) [it] it (fun i h => h.IsListIter it a i) where
  mem := by simp
  obj := fun i h st b hb => by
    have e : b = it := by simpa using hb
    subst e
    obtain ⟨o, e, c, d⟩ := st
    exact ⟨o, e, fun v z => by rw [d] at z; cases z⟩
  keep := fun i h h' st k => st.at fun o e => k it (by simp) o e
  item := by
    intro X hP hw hK hc i pins s σ H E I hf st hg
    subst hP hw hK
    obtain ⟨xs, x, hq, hx⟩ := hg
    obtain ⟨its, rv, p, hz⟩ := I.list hq
    obtain ⟨u, hu, ru⟩ := rv.get hx
    obtain ⟨f0, f1, f2, f3, f4, f5⟩ := hf it (by simp)
    refine wpAny_pyNext_list_item st p.isList (x := u) (by simpa using hu) fun h' st' sb => ?_
    have I1 : Inv X pins σ H { s with heap := h' } := I.turned (t' := s.toks) (fun b o hb e => (sb.2 b hb).trans e) f0 f1 f3 f4 f5
    obtain ⟨o, e, c, d⟩ := id st'
    exact ⟨u, rfl, go_of (s := { s with heap := h' }) e c d (by decide) ⟨x, H, I1, ru, ⟨rfl, fun ys hy => by rw [I.list_inj hy hq]; exact hx⟩, st', fun b hb => (hf b hb).1⟩⟩
  done := by
    intro X hP hw hK hc i pins s σ H E I hf st hg
    subst hP hw hK
    obtain ⟨xs, hq, hx⟩ := hg
    obtain ⟨its, rv, p, hz⟩ := I.list hq
    obtain ⟨f0, f1, f2, f3, f4, f5⟩ := hf it (by simp)
    have hl := rv.length
    exact wpAny_pyNext_list_end (I.ok.hd hc) st p.isList (by simp; omega) fun h' eb => ⟨rfl, I.turned (t' := s.toks) (fun b o hb e => eb b o hb e) f0 f1 f3 f4 f5⟩
  self := fun _ _ _ _ _ st h => wpAny_pyIter_listiter st h
end L2
namespace L2
open PySem PySem.Spec PyProof.Rows
section
variable {X : Cx} {tg : Expr}
def iList (K : PySem.W.Frag) (tl : TE) : TI := fun σ H R => tl σ H fun x H1 => ∃ a, x = .ref a ∧ (∃ xs, SqL K H1 a xs) ∧ R (Itl K a) H1
theorem pi_list {l : Expr} {tl : TE} (hl : PE X l tl) : PI X tg l (iList X.K tl) := by
  intro pins s σ H R I h
  refine thn (hl pins s σ H _ I h) fun v s1 ⟨x, H1, I1, r1, q1⟩ => ?_
  obtain ⟨a, e, ⟨xs, hq⟩, q⟩ := q1
  subst e
  cases r1
  obtain ⟨its, rv, p, hz⟩ := I1.list hq
  refine wpAny_pyIter_list p.isList ?_
  refine ⟨s1.heap.objs.size, [s1.heap.objs.size], _, _, H1, rfl, I1.kept (t' := s1.toks) fun b o e => Heap.get?_push_of_some _ e, turn_list a _, ⟨_, Heap.get?_push_size _ rfl, rfl, rfl⟩, fun b hb => ?_, q⟩
  have e : b = s1.heap.objs.size := by simpa using hb
  subst e
  exact I1.fpOk (Nat.le_refl _) (I1.hok.fresh (Nat.le_refl _))
/-! ### for -/
/-- W: the invariant by the turn and a measure; N: what the body is to reach -/
def tFor (wi : TI) (g : TG) (tb : TS) : TS := fun D σ H => wi σ H fun J H1 => ∃ W : Nat → Nat → St → Hp → Prop, (∃ m, W 0 m σ H1) ∧ ∀ i m σ H, W i m σ H →
  (J.stop i H ∧ D.nx σ H) ∨ (J.go i H ∧ ∃ N : St → Hp → Prop, (∀ σ' H', N σ' H' → ∃ m', m' < m ∧ W (i + 1) m' σ' H') ∧ ∀ x H', J.yld i H x H' → g x σ H' fun σ2 H2 => tb { D with nx := N, ct := N, bk := D.nx } σ2 H2)
/-- the records at fp as they stand -/
def pinsAt (fp : List Addr) (h : Heap) : List (Addr × Obj) := fp.filterMap fun b => (h.get? b).map fun o => (b, o)
theorem mem_pinsAt {fp : List Addr} {h : Heap} {b : Addr} {o : Obj} (hb : b ∈ fp) (e : h.get? b = some o) : (b, o) ∈ pinsAt fp h := List.mem_filterMap.mpr ⟨b, hb, by rw [e]; rfl⟩
theorem of_pinsAt {fp : List Addr} {h : Heap} {p : Addr × Obj} (hp : p ∈ pinsAt fp h) : p.1 ∈ fp ∧ h.get? p.1 = some p.2 := by
  obtain ⟨b, hb, e⟩ := List.mem_filterMap.mp hp
  cases q : h.get? b with
  | none => rw [q] at e; cases e
  | some o =>
    rw [q] at e
    have e' : (b, o) = p := Option.some.inj e
    subst e'
    exact ⟨hb, q⟩
theorem Inv.pinned {pins : List (Addr × Obj)} {σ : St} {H : Hp} {s : Shared} {fp : List Addr} (I : Inv X pins σ H s) (hf : ∀ b ∈ fp, FpOk X pins H b) (ho : ∀ b ∈ fp, ∃ o, s.heap.get? b = some o ∧ ∀ v, o.data ≠ .cell v) : Inv X (pins ++ pinsAt fp s.heap) σ H s :=
  I.pins_of fun p hp => (List.mem_append.mp hp).elim (fun z => I.pin p (List.mem_append_right _ z)) fun z => by
    obtain ⟨hb, e⟩ := of_pinsAt z
    obtain ⟨f0, f1, f2, _⟩ := hf p.1 hb
    obtain ⟨o, e', d⟩ := ho p.1 hb
    rw [e] at e'; cases e'
    exact ⟨e, f0, f1, f2, d⟩
theorem Inv.unpinned {pins pl : List (Addr × Obj)} {σ : St} {H : Hp} {s : Shared} (I : Inv X (pins ++ pl) σ H s) : Inv X pins σ H s := I.pins_of fun p hp => I.pin p (List.mem_append_right _ (List.mem_append_left _ hp))
theorem ps_for {iter : Expr} {body : List Stmt} {wi : TI} {g : TG} {tb : TS} {pos : Pos} (hp : PassesOwn (model X.prog X.w) X.A X.env X.xe) (hc : X.calm = true) (hi : PI X tg iter wi) (hg : PG X tg g) (hb : PSs X body tb)
    (hs : ∀ x, foldedSetIterable iter X.env x = pure x := by intro _; rfl) : PS X (.For tg iter body [] pos) (tFor wi g tb) := by
  intro pins s σ H D I h
  refine wpAny_For (thn (hi pins s σ H _ I h) fun v s1 h1 => thn h1 fun itv s2 h2 => ?_) hs
  obtain ⟨it, fp, tn, J, H2, e, I2, T, st2, f2, W, ⟨m0, w0⟩, turn⟩ := h2
  subst e
  -- what stays true of the iterator's objects through the loop
  have stat : ∀ {H' : Hp}, (∀ b ∈ fp, H' b = none) → ∀ b ∈ fp, FpOk X pins H' b := fun hn b hb => ⟨hn b hb, (f2 b hb).2⟩
  refine codeAny_forLoop_any (fun n s' => ∃ i σ' H', Inv X pins σ' H' s' ∧ tn i s'.heap ∧ (∀ b ∈ fp, H' b = none) ∧ W i n σ' H') ?_ m0 ⟨0, σ, H2, I2, st2, fun b hb => (f2 b hb).1, w0⟩
  rintro n s3 ⟨i, σ3, H3, I3, st3, fr3, w3⟩
  rcases turn i n σ3 H3 w3 with ⟨stop, qn⟩ | ⟨go, N, hN, step⟩
  · refine wpAny_passesOwn hp (thn (T.done X rfl rfl rfl hc i pins s3 σ3 H3 X.xe I3 (stat fr3) st3 stop) fun r s4 ⟨hr, I4⟩ => ?_)
    subst hr
    exact wpAny_execs_nil ⟨σ3, H3, I4, qn⟩
  · refine wpAny_passesOwn hp (thn (T.item X rfl rfl rfl hc i pins s3 σ3 H3 X.xe I3 (stat fr3) st3 go) fun r s4 ⟨u, hr, h4⟩ => ?_)
    subst hr
    refine wpAny_passesOwn hp (thn h4 fun _ s5 ⟨x, H5, I5, r5, y5, st5, fr5⟩ => ?_)
    have I5' := I5.pinned (stat fr5) (T.obj _ _ st5)
    refine wpAny_passesOwn hp (thn (hg _ s5 σ3 H5 x u _ I5' r5 (step x H5 y5)) fun _ s6 ⟨σ6, H6, I6, q6⟩ => ?_)
    refine wpAny_passesOwn hp (thn (hb _ s6 σ6 H6 _ I6 q6) fun f s7 q7 => ?_)
    have again : ∀ {σ7 : St} {H7 : Hp}, Inv X (pins ++ pinsAt fp s5.heap) σ7 H7 s7 → N σ7 H7 → ∃ m, m < n ∧ ∃ i σ' H', Inv X pins σ' H' s7 ∧ tn i s7.heap ∧ (∀ b ∈ fp, H' b = none) ∧ W i m σ' H' := fun {σ7 H7} I7 n7 => by
      obtain ⟨m', hm, w7⟩ := hN σ7 H7 n7
      refine ⟨m', hm, i + 1, σ7, H7, I7.unpinned, T.keep _ _ _ st5 fun b hb o e => (I7.pin (b, o) (List.mem_append_right _ (List.mem_append_right _ (mem_pinsAt hb e)))).1, fun b hb => ?_, w7⟩
      obtain ⟨o, e, d⟩ := T.obj _ _ st5 b hb
      exact (I7.pin (b, o) (List.mem_append_right _ (List.mem_append_right _ (mem_pinsAt hb e)))).2.1
    cases f with
    | next => obtain ⟨σ7, H7, I7, n7⟩ := q7; exact again I7 n7
    | cont => obtain ⟨σ7, H7, I7, n7⟩ := q7; exact again I7 n7
    | brk => obtain ⟨σ7, H7, I7, q7⟩ := q7; exact ⟨σ7, H7, I7.unpinned, q7⟩
    | ret v => obtain ⟨x7, σ7, H7, I7, r7, q7⟩ := q7; exact ⟨x7, σ7, H7, I7.unpinned, r7, q7⟩
end
/-! ### the forms one uses -/
/-- over a list that the body leaves as it is -/
theorem for_list {K : PySem.W.Frag} {a : Addr} {xs : List V} {g : TG} {tb : TS} {D : Ends} {σ : St} {H : Hp} (Pv : Nat → St → Hp → Prop) (h0 : Pv 0 σ H) (hl : ∀ i σ H, i ≤ xs.length → Pv i σ H → SqL K H a xs)
    (hs : ∀ i x σ H, xs[i]? = some x → Pv i σ H → g x σ H fun σ2 H2 => tb { D with nx := Pv (i + 1), ct := Pv (i + 1), bk := D.nx } σ2 H2) (hd : ∀ σ H, Pv xs.length σ H → D.nx σ H) :
    ∃ W : Nat → Nat → St → Hp → Prop, (∃ m, W 0 m σ H) ∧ ∀ i m σ H, W i m σ H →
      ((Itl K a).stop i H ∧ D.nx σ H) ∨ ((Itl K a).go i H ∧ ∃ N : St → Hp → Prop, (∀ σ' H', N σ' H' → ∃ m', m' < m ∧ W (i + 1) m' σ' H') ∧ ∀ x H', (Itl K a).yld i H x H' → g x σ H' fun σ2 H2 => tb { D with nx := N, ct := N, bk := D.nx } σ2 H2) := by
  refine ⟨fun i m σ H => m = xs.length - i ∧ i ≤ xs.length ∧ Pv i σ H, ⟨xs.length, by simp, Nat.zero_le _, h0⟩, ?_⟩
  rintro i m σ H ⟨rfl, hi, p⟩
  have q := hl i σ H hi p
  by_cases hlt : i < xs.length
  · refine .inr ⟨⟨xs, xs[i], q, by simp [hlt]⟩, Pv (i + 1), fun σ' H' p' => ⟨xs.length - (i + 1), by omega, rfl, hlt, p'⟩, fun x H' y => ?_⟩
    obtain ⟨e, y⟩ := y
    subst e
    exact hs i x σ _ (y xs q) p
  · have e : i = xs.length := by omega
    subst e
    exact .inl ⟨⟨xs, q, Nat.le_refl _⟩, hd σ H p⟩
end L2
namespace L2
open PySem PySem.Spec PyProof.Rows
abbrev R2 := V → V → Hp → VK → Prop
/-- a two-place operation on values: f is binaryOp op, inplaceOp op or compareOp op -/
def OpR (X : Cx) (f : Value → Value → Sem Value) (r : R2) : Prop :=
  ∀ (pins : List (Addr × Obj)) (s : Shared) (σ : St) (H : Hp) (x y : V) (v u : Value) (Q : VK), Inv X pins σ H s → RelV x v → RelV y u → r x y H Q →
    wpAny (model X.prog X.w) X.A (f v u) (EP X pins σ Q) X.xe s
/-- a one-place operation -/
def UnR (X : Cx) (f : Value → Sem Value) (r : V → Hp → VK → Prop) : Prop :=
  ∀ (pins : List (Addr × Obj)) (s : Shared) (σ : St) (H : Hp) (x : V) (v : Value) (Q : VK), Inv X pins σ H s → RelV x v → r x H Q →
    wpAny (model X.prog X.w) X.A (f v) (EP X pins σ Q) X.xe s
/-- a call of a value that is known (a builtin, a type) with values -/
def CallR (X : Cx) (f : Value) (r : List V → Hp → VK → Prop) : Prop :=
  ∀ (pins : List (Addr × Obj)) (s : Shared) (σ : St) (H : Hp) (xs : List V) (us : List Value) (Q : VK), Inv X pins σ H s → Vals xs us → r xs H Q →
    wpAny (model X.prog X.w) X.A (call f us) (EP X pins σ Q) X.xe s
def tOp (r : R2) (ta tb : TE) : TE := fun σ H Q => ta σ H fun x H1 => tb σ H1 fun y H2 => r x y H2 Q
def tUn (r : V → Hp → VK → Prop) (ta : TE) : TE := fun σ H Q => ta σ H fun x H1 => r x H1 Q
/-- ints in, under C, and a value out -/
def rI (C : Int → Int → Prop) (g : Int → Int → V) : R2 := fun x y H Q => ∃ i j, x = .int i ∧ y = .int j ∧ C i j ∧ Q (g i j) H
def rI0 (g : Int → Int → V) : R2 := fun x y H Q => ∃ i j, x = .int i ∧ y = .int j ∧ Q (g i j) H
def rU (g : Int → V) : V → Hp → VK → Prop := fun x H Q => ∃ i, x = .int i ∧ Q (g i) H
section
variable {X : Cx} {a b c : Expr} {ta tb tc : TE} {pos : Pos}
theorem binT (ha : PE X a ta) (hb : PE X b tb) {pins : List (Addr × Obj)} {s : Shared} {σ : St} {H : Hp} {R : V → V → Hp → Prop} (I : Inv X pins σ H s)
    (h : ta σ H fun x H1 => tb σ H1 fun y H2 => R x y H2) {Q : Value → Shared → Prop} {f : Value → Value → Sem Value}
    (hf : ∀ v u s2 x y H2, Inv X pins σ H2 s2 → RelV x v → RelV y u → R x y H2 → wpAny (model X.prog X.w) X.A (f v u) Q X.xe s2) :
    wpAny (model X.prog X.w) X.A (eval a X.env) (fun v s₁ => wpAny (model X.prog X.w) X.A (eval b X.env) (fun u s₂ => wpAny (model X.prog X.w) X.A (f v u) Q X.xe s₂) X.xe s₁) X.xe s := by
  refine thn (ha pins s σ H _ I h) fun v s1 ⟨x, H1, I1, r1, q1⟩ => ?_
  refine thn (hb pins s1 σ H1 _ I1 q1) fun u s2 ⟨y, H2, I2, r2, q2⟩ => ?_
  exact hf v u s2 x y H2 I2 r1 r2 q2
theorem pe_op {op : Operator} {r : R2} (ho : OpR X (binaryOp op) r) (ha : PE X a ta) (hb : PE X b tb) : PE X (.BinOp a op b pos) (tOp r ta tb) := by
  intro pins s σ H Q I h
  exact wpAny_BinOp (binT ha hb I h fun v u s2 x y H2 I2 rx ry q => ho pins s2 σ H2 x y v u Q I2 rx ry q)
theorem pe_un {op : UnaryOp} {r : V → Hp → VK → Prop} (ho : UnR X (unaryOp op) r) (ha : PE X a ta) : PE X (.UnaryOp op a pos) (tUn r ta) := by
  intro pins s σ H Q I h
  exact UnaryOp_ (thn (ha pins s σ H _ I h) fun v s1 ⟨x, H1, I1, r1, q1⟩ => ho pins s1 σ H1 x v Q I1 r1 q1)
/-! ### ints -/
theorem opI {f : Value → Value → Sem Value} {C : Int → Int → Prop} {g : Int → Int → Int}
    (rule : ∀ (i j : Int) (t u : Tok) (s : Shared) (Q : Value → Shared → Prop) (E : Value → Shared → Prop), C i j → Q (.int (g i j) s.toks) { s with toks := s.toks + 1 } → wpAny (model X.prog X.w) X.A (f (.int i t) (.int j u)) Q E s) :
    OpR X f (rI C fun i j => .int (g i j)) := by
  intro pins s σ H x y v u Q I rx ry h
  obtain ⟨i, j, rfl, rfl, hc, q⟩ := h
  obtain ⟨t, rfl⟩ := rx
  obtain ⟨t', rfl⟩ := ry
  exact rule i j t t' s _ _ hc ⟨.int (g i j), H, I.tok _, ⟨_, rfl⟩, q⟩
theorem opB0 {f : Value → Value → Sem Value} {g : Int → Int → Bool}
    (rule : ∀ (i j : Int) (t u : Tok) (s : Shared) (Q : Value → Shared → Prop) (E : Value → Shared → Prop), Q (.bool (g i j)) s → wpAny (model X.prog X.w) X.A (f (.int i t) (.int j u)) Q E s) :
    OpR X f (rI0 fun i j => .bl (g i j)) := by
  intro pins s σ H x y v u Q I rx ry h
  obtain ⟨i, j, rfl, rfl, q⟩ := h
  obtain ⟨t, rfl⟩ := rx
  obtain ⟨t', rfl⟩ := ry
  exact rule i j t t' s _ _ ⟨.bl (g i j), H, I, rfl, q⟩
def CDiv (i j : Int) : Prop := 0 < j ∧ j < 1073741824
/-- // by a positive divisor -/
theorem op_fdiv : OpR X (binaryOp .FloorDiv) (rI CDiv fun i j => .int (i / j)) := opI fun i j _ _ _ _ _ hc q => by
  have h1 : (0 : Int) < j := hc.1
  have h2 : j < 1073741824 := hc.2
  exact floordiv_int (by omega) (by rw [Int.fdiv_eq_ediv_of_nonneg i (by omega)]; exact q) (.inl (PyProof.noPylong_small (by omega)))
/-- % by a positive divisor of any size -/
theorem op_mod : OpR X (binaryOp .Mod) (rI (fun _ j => 0 < j) fun i j => .int (i % j)) := opI fun i j _ _ _ _ _ hc q => by
  have h1 : (0 : Int) < j := hc
  exact mod_int' (by omega) (by rw [Int.fmod_eq_emod_of_nonneg i (by omega)]; exact q)
theorem unI {f : Value → Sem Value} {g : Int → Int}
    (rule : ∀ (i : Int) (t : Tok) (s : Shared) (Q : Value → Shared → Prop) (E : Value → Shared → Prop), Q (.int (g i) s.toks) { s with toks := s.toks + 1 } → wpAny (model X.prog X.w) X.A (f (.int i t)) Q E s) :
    UnR X f (rU fun i => .int (g i)) := by
  intro pins s σ H x v Q I rx h
  obtain ⟨i, rfl, q⟩ := h
  obtain ⟨t, rfl⟩ := rx
  exact rule i t s _ _ ⟨.int (g i), H, I.tok _, ⟨_, rfl⟩, q⟩
theorem un_neg : UnR X (unaryOp .USub) (rU fun i => .int (-i)) := unI fun _ _ _ _ _ q => neg_int q
/-! ### bools among ints: n += (a < b) -/
end
/-! ### comparisons -/
/-- the scalars that == tells apart as data does -/
def scal : V → V → Bool
  | .non, .non => true | .non, .int _ => true | .int _, .non => true | .non, .bl _ => true | .bl _, .non => true | .non, .str _ => true | .str _, .non => true
  | .int _, .int _ => true | .bl _, .bl _ => true | .str _, .str _ => true | .byt _, .byt _ => true
  | .int _, .str _ => true | .str _, .int _ => true | .bl _, .str _ => true | .str _, .bl _ => true
  | _, _ => false
def rEq : R2 := fun x y H Q => scal x y = true ∧ Q (.bl (decide (x = y))) H
def rNe : R2 := fun x y H Q => scal x y = true ∧ Q (.bl (!decide (x = y))) H
theorem dec_int {i j : Int} : decide (V.int i = V.int j) = (i == j) := by
  rw [Bool.eq_iff_iff]
  simp
theorem dec_bl {i j : Bool} : decide (V.bl i = V.bl j) = (i == j) := by
  rw [Bool.eq_iff_iff]
  simp
theorem dec_str {i j : Str} : decide (V.str i = V.str j) = (i == j) := by
  rw [Bool.eq_iff_iff]
  simp
theorem dec_byt {i j : Array UInt8} : decide (V.byt i = V.byt j) = (i.toList == j.toList) := by
  rw [Bool.eq_iff_iff]
  cases i
  cases j
  simp
section
variable {X : Cx} {a b c : Expr} {ta tb tc : TE} {pos : Pos}
theorem fin_bl {pins : List (Addr × Obj)} {σ : St} {H : Hp} {s : Shared} {Q : VK} {k k' : Bool} (I : Inv X pins σ H s) (q : Q (.bl k) H) (e : k = k') : EP X pins σ Q (.bool k') s := by
  subst e
  exact ⟨.bl k, H, I, rfl, q⟩
theorem op_eq : OpR X (compareOp .Eq) rEq := by
  intro pins s σ H x y v u Q I rx ry h
  obtain ⟨hs, q⟩ := h
  cases x with
  | non =>
    cases rx
    cases y with
    | non => cases ry; exact PySem.EqNone.eq_none_none (fin_bl I q (by simp))
    | bl j => cases ry; exact PySem.EqNone.eq_none_bool (fin_bl I q (by simp))
    | int j => obtain ⟨t', rfl⟩ := ry; exact PySem.EqNone.eq_none_int (fin_bl I q (by simp))
    | str j => obtain ⟨t', rfl⟩ := ry; exact PySem.EqNone.eq_none_str (fin_bl I q (by simp))
    | _ => exact absurd (show false = true from hs) Bool.false_ne_true
  | bl i =>
    cases rx
    cases y with
    | non => cases ry; exact PySem.EqNone.eq_bool_none (fin_bl I q (by simp))
    | bl j => cases ry; exact eq_bool (fin_bl I q dec_bl)
    | str j => obtain ⟨t', rfl⟩ := ry; exact PySem.EqMixed.eq_bool_str (fin_bl I q (by simp))
    | _ => exact absurd (show false = true from hs) Bool.false_ne_true
  | int i =>
    obtain ⟨t, rfl⟩ := rx
    cases y with
    | non => cases ry; exact PySem.EqNone.eq_int_none (fin_bl I q (by simp))
    | int j => obtain ⟨t', rfl⟩ := ry; exact eq_int (fin_bl I q dec_int)
    | str j => obtain ⟨t', rfl⟩ := ry; exact PySem.EqMixed.eq_int_str (fin_bl I q (by simp))
    | _ => exact absurd (show false = true from hs) Bool.false_ne_true
  | str i =>
    obtain ⟨t, rfl⟩ := rx
    cases y with
    | non => cases ry; exact PySem.EqNone.eq_str_none (fin_bl I q (by simp))
    | bl j => cases ry; exact PySem.EqMixed.eq_str_bool (fin_bl I q (by simp))
    | int j => obtain ⟨t', rfl⟩ := ry; exact PySem.EqMixed.eq_str_int (fin_bl I q (by simp))
    | str j => obtain ⟨t', rfl⟩ := ry; exact eq_str (fin_bl I q dec_str)
    | _ => exact absurd (show false = true from hs) Bool.false_ne_true
  | byt i =>
    obtain ⟨t, rfl⟩ := rx
    cases y with
    | byt j => obtain ⟨t', rfl⟩ := ry; exact PySem.W.eq_bytes (fin_bl I q dec_byt)
    | _ => exact absurd (show false = true from hs) Bool.false_ne_true
  | _ => cases y <;> exact absurd (show false = true from hs) Bool.false_ne_true
theorem op_ne : OpR X (compareOp .NotEq) rNe := by
  intro pins s σ H x y v u Q I rx ry h
  obtain ⟨hs, q⟩ := h
  cases x with
  | non =>
    cases rx
    cases y with
    | non => cases ry; exact PySem.EqNone.ne_none_none (fin_bl I q (by simp))
    | bl j => cases ry; exact PySem.EqNone.ne_none_bool (fin_bl I q (by simp))
    | int j => obtain ⟨t', rfl⟩ := ry; exact PySem.EqNone.ne_none_int (fin_bl I q (by simp))
    | str j => obtain ⟨t', rfl⟩ := ry; exact PySem.EqNone.ne_none_str (fin_bl I q (by simp))
    | _ => exact absurd (show false = true from hs) Bool.false_ne_true
  | bl i =>
    cases rx
    cases y with
    | non => cases ry; exact PySem.EqNone.ne_bool_none (fin_bl I q (by simp))
    | bl j => cases ry; exact ne_bool (fin_bl I q (congrArg not dec_bl))
    | str j => obtain ⟨t', rfl⟩ := ry; exact PySem.EqMixed.ne_bool_str (fin_bl I q (by simp))
    | _ => exact absurd (show false = true from hs) Bool.false_ne_true
  | int i =>
    obtain ⟨t, rfl⟩ := rx
    cases y with
    | non => cases ry; exact PySem.EqNone.ne_int_none (fin_bl I q (by simp))
    | int j => obtain ⟨t', rfl⟩ := ry; exact ne_int (fin_bl I q (congrArg not dec_int))
    | str j => obtain ⟨t', rfl⟩ := ry; exact PySem.EqMixed.ne_int_str (fin_bl I q (by simp))
    | _ => exact absurd (show false = true from hs) Bool.false_ne_true
  | str i =>
    obtain ⟨t, rfl⟩ := rx
    cases y with
    | non => cases ry; exact PySem.EqNone.ne_str_none (fin_bl I q (by simp))
    | bl j => cases ry; exact PySem.EqMixed.ne_str_bool (fin_bl I q (by simp))
    | int j => obtain ⟨t', rfl⟩ := ry; exact PySem.EqMixed.ne_str_int (fin_bl I q (by simp))
    | str j => obtain ⟨t', rfl⟩ := ry; exact ne_str (fin_bl I q (congrArg not dec_str))
    | _ => exact absurd (show false = true from hs) Bool.false_ne_true
  | byt i =>
    obtain ⟨t, rfl⟩ := rx
    cases y with
    | byt j => obtain ⟨t', rfl⟩ := ry; exact PySem.W.ne_bytes (fin_bl I q (congrArg not dec_byt))
    | _ => exact absurd (show false = true from hs) Bool.false_ne_true
  | _ => cases y <;> exact absurd (show false = true from hs) Bool.false_ne_true
theorem op_lt : OpR X (compareOp .Lt) (rI0 fun i j => .bl (decide (i < j))) := opB0 fun _ _ _ _ _ _ _ q => lt_int q
theorem op_gt : OpR X (compareOp .Gt) (rI0 fun i j => .bl (decide (j < i))) := opB0 fun _ _ _ _ _ _ _ q => gt_int q
theorem nomark (b : Expr) {op : CmpOp} (h : op ≠ .In := by decide) (h2 : op ≠ .NotIn := by decide) : behindInMarks op b = false := by
  have e1 : (op == CmpOp.In) = false := by cases op <;> first | rfl | exact absurd rfl h
  have e2 : (op == CmpOp.NotIn) = false := by cases op <;> first | rfl | exact absurd rfl h2
  cases b <;> simp [behindInMarks, e1, e2]
/-- a comparison as a value; hm: nomark b, or (for in, not in) by with_unfolding_all rfl -/
theorem pe_cmpR {op : CmpOp} {r : R2} (ho : OpR X (compareOp op) r) (ha : PE X a ta) (hb : PE X b tb) (hm : behindInMarks op b = false) : PE X (.Compare a [op] [b] pos) (tOp r ta tb) := by
  intro pins s σ H Q I h
  exact wpAny_Compare1 (binT ha hb I h fun v u s2 x y H2 I2 rx ry q => ho pins s2 σ H2 x y v u Q I2 rx ry q) hm
/-- a reading of a value as a test -/
def tTest (t : TE) : TT := fun σ H Q => t σ H fun x H' => ∃ k, x = .bl k ∧ Q k H'
theorem pt_cmpR {op : CmpOp} {r : R2} (ho : OpR X (compareOp op) r) (ha : PE X a ta) (hb : PE X b tb) (hm : behindInMarks op b = false) : PT X (.Compare a [op] [b] pos) (tTest (tOp r ta tb)) := by
  intro pins s σ H Q I h
  refine wpAny_isTrue_Compare1 (thn (ha pins s σ H _ I h) fun v s1 ⟨x, H1, I1, r1, q1⟩ => thn (hb pins s1 σ H1 _ I1 q1) fun u s2 ⟨y, H2, I2, r2, q2⟩ =>
    thn (ho pins s2 σ H2 x y v u _ I2 r1 r2 q2) fun c s3 ⟨z, H3, I3, r3, k, e, q3⟩ => ?_) hm
  subst e
  cases r3
  exact wpAny_truthy_bool ⟨H3, I3, q3⟩
/-! ### truth -/
theorem line63 : (sizeLine : Nat) < 2 ^ 63 := by rw [sizeLine_eq]; decide
/-! ### strs and bytes -/
/-! ### scalar builtins, by CallR -/
theorem vals1 {x : V} {us : List Value} (r : Vals [x] us) : ∃ u, us = [u] ∧ RelV x u := by
  cases r with
  | cons r1 r2 => cases r2; exact ⟨_, rfl, r1⟩
theorem call_ord : CallR X (.builtin "ord") (fun xs H Q => ∃ x, xs = [.str x] ∧ x.length = 1 ∧ Q (.int (x.cps.getD 0 0 : Nat)) H) := by
  intro pins s σ H xs us Q I r h
  obtain ⟨x, rfl, hz, q⟩ := h
  obtain ⟨u, rfl, t, rfl⟩ := vals1 r
  exact ord_of_one hz ⟨.int _, H, I.tok _, ⟨_, rfl⟩, q⟩
end
end L2
namespace L2
open PySem PySem.Spec PyProof.Rows
/-! ### an instance, its attributes a map -/
structure ObjM (h : Heap) (x dx C : Addr) (mA : Str → Option Value) : Prop where
  obj : h.get? x = some (PySem.W.instObj C dx)
  ns : h.Ns1 dx mA
  ne : dx ≠ x
theorem lookIn_ns {h : Heap} {dx : Addr} {mA : Str → Option Value} (n : h.Ns1 dx mA) : ∃ od, h.get? dx = some od ∧ ∀ name, PySem.W.lookIn name od = some (mA name) := by
  obtain ⟨o, es, ep, ho, hd, hk, _, hm⟩ := n
  refine ⟨o, ho, fun name => ?_⟩
  have e := hm name
  unfold nsFind findBy at e
  rw [← Array.find?_toList] at e
  unfold PySem.W.lookIn
  rw [hd]
  dsimp only
  split
  · rename_i y q
    rw [q] at e
    exact congrArg some e
  · rename_i q
    rw [q] at e
    have a : es.toList.any (·.refKey) = false := by
      rw [List.any_eq_false]
      intro y hy
      obtain ⟨z, t, hkey⟩ := hk y (Array.mem_toList_iff.mp hy)
      simp [DictEntry.refKey, hkey]
    have a' : ¬ es.toList.any (·.refKey) = true := by rw [a]; exact Bool.false_ne_true
    rw [if_neg a']
    exact congrArg some e
theorem ObjM.look {h : Heap} {x dx C : Addr} {mA : Str → Option Value} (I : ObjM h x dx C mA) : ∃ od, PySem.W.InstAt h x (PySem.W.instObj C dx) C (some od) ∧ ∀ name, PySem.W.lookIn name od = some (mA name) :=
  let ⟨od, ho, hl⟩ := lookIn_ns I.ns
  ⟨od, ⟨I.obj, rfl, rfl, ho⟩, hl⟩
section
variable {prog : Program} {w : World} {A : Around} {E : Value → Shared → Prop} {s : Shared} {K : PySem.W.Frag} {x dx C f : Addr} {mA : Str → Option Value} {name : Str} {v : Value}
theorem get_map {expr : Bool} {Q : Value → Shared → Prop} (X : K.In s.heap) (I : ObjM s.heap x dx C mA) (hg : PySem.W.plainGet K C name = true) (hh : PySem.W.hasDictIn K C = true)
    (ha : PySem.W.findIn K (.ref C) name = some none) (hv : mA name = some v) (hv' : PySem.W.handedIn v = true) (h : Q v { s with toks := s.toks + 1 }) :
    wpAny (model prog w) A (getAttr (.ref x) name expr) Q E s := by
  obtain ⟨od, J, hl⟩ := I.look
  exact PySem.W.get_value X J (PySem.W.plainGet_of hg).1 (PySem.W.findObj_own hh ha rfl (by rw [hl, hv])) hv' h
theorem set_map {ns : List Str} {Q : Unit → Shared → Prop} (X : K.In s.heap) (I : ObjM s.heap x dx C mA)
    (hs : PySem.W.findIn K (.ref C) "__setattr__" = some (some (.builtin "object.__setattr__"))) (hp : PySem.W.plainOver K C = true) (ht : PySem.W.takerIn K C name = some none) (hh : PySem.W.hasDictIn K C = true)
    (hw : PySem.Within mA ns) (hsz : ns.length ≤ sizeLine)
    (h : ∀ h', ObjM h' x dx C (fun y => if y = name then some v else mA y) → Heap.SameBut dx s.heap h' → Q () { s with heap := h', toks := s.toks + 2 }) :
    wpAny (model prog w) A (setAttr (.ref x) name v) Q E s := by
  obtain ⟨od, J, hl⟩ := I.look
  refine PySem.W.set_plain X J hs (PySem.W.osa_open (s := { s with toks := s.toks + 1 }) (r := none) X J hp ht fun b => ?_)
  obtain ⟨cd, hc, hd'⟩ := PySem.W.any_some hh
  have hx : s.heap.get? x = some ⟨.ref C, some dx, .plain, #[]⟩ := I.obj
  refine wpAny_bind (wpAny_pure (wpAny_bind (wpAny_bind (wpAny_loadPart hx (wpAny_bind (PySem.W.Looks.here (s := { s with toks := s.toks + 1 }) (PySem.W.looks_clsIn X hc) ?_))))))
  rw [hd']
  refine wpAny_pure (a := some dx) (wpAny_bind (wpAny_pure (wpAny_bind ?_)))
  refine wpAny_nsSet1 (s := { s with toks := s.toks + 1 }) I.ns fun h' hn2 hs2 => ?_
  obtain ⟨oD, esD, epD, hoD, hdD, hcD⟩ := hn2.count (PySem.Within.cons name v hw)
  refine wpAny_bind (wpAny_lookBehind hoD (by rw [hdD]; exact pastItsLine_dict (Nat.le_trans hcD (by rw [List.length_cons]; omega))) ?_)
  exact wpAny_pure (h _ ⟨(hs2.2 _ (Ne.symm I.ne)).trans I.obj, hn2, I.ne⟩ hs2)
/-- C(..): the dict at the heap's end, the instance behind it; then its __init__ -/
theorem make_map {R : Result → Shared → Prop} {vs : List Value} {kw : List (Str × Value)} (X : K.In s.heap) (hm : PySem.W.makesIn K C = true)
    (hi : PySem.W.findIn K (.ref C) "__init__" = some (some (.ref f))) (hf : PySem.W.typeIn K (.ref f) = some (.type "function"))
    (h : codeAny (model prog w) (A.under (.builtin "type.__call__" ⟨.ref C :: vs, kw⟩)) (.call (.ref f) ⟨.ref (s.heap.objs.size + 1) :: vs, kw⟩) (PySem.W.InitBack (s.heap.objs.size + 1) R)
      { s with heap := (s.heap.push PySem.W.emptyDict).push (PySem.W.instObj C s.heap.objs.size) }) :
    codeAny (model prog w) A (.call (.ref C) ⟨vs, kw⟩) R s := by
  obtain ⟨hh, g, d, t, os⟩ := s
  exact PySem.W.make_core (PySem.W.makes_of X hm) (PySem.W.looks_findIn X hi) (fun self => PySem.W.bind_fn X self hf) (.inl rfl) h
end
/-! ### the attributes as a list of pairs -/
def putF (f : Str) (v : V) : List (Str × V) → List (Str × V)
  | [] => [(f, v)]
  | (g, x) :: r => if g = f then (g, v) :: r else (g, x) :: putF f v r
theorem lookup_putF (f g : Str) (v : V) : ∀ fs : List (Str × V), (putF f v fs).lookup g = if g = f then some v else fs.lookup g
  | [] => by
    show List.lookup g [(f, v)] = _
    by_cases h : g = f
    · have hb : (g == f) = true := beq_iff_eq.mpr h
      simp only [List.lookup, hb, if_pos h]
    · have hb : (g == f) = false := beq_eq_false_iff_ne.mpr h
      simp only [List.lookup, hb, if_neg h]
  | (k, x) :: r => by
    have ih := lookup_putF f g v r
    rw [show putF f v ((k, x) :: r) = (if k = f then (k, v) :: r else (k, x) :: putF f v r) from rfl]
    by_cases hk : k = f
    · rw [if_pos hk]
      by_cases h : g = k
      · have hb : (g == k) = true := beq_iff_eq.mpr h
        simp only [List.lookup, hb, if_pos (h.trans hk)]
      · have hb : (g == k) = false := beq_eq_false_iff_ne.mpr h
        simp only [List.lookup, hb, if_neg (fun e : g = f => h (e.trans hk.symm))]
    · rw [if_neg hk]
      by_cases h : g = k
      · have hb : (g == k) = true := beq_iff_eq.mpr h
        simp only [List.lookup, hb, if_neg (fun e : g = f => hk (h.symm.trans e))]
      · have hb : (g == k) = false := beq_eq_false_iff_ne.mpr h
        simp only [List.lookup, hb]
        exact ih
theorem keys_putF (f : Str) (v : V) : ∀ fs : List (Str × V), f ∈ (putF f v fs).map (·.1) ∧ ∀ g, g ∈ fs.map (·.1) → g ∈ (putF f v fs).map (·.1)
  | [] => ⟨by simp [putF], fun g h => by simp at h⟩
  | (k, x) :: r => by
    obtain ⟨i1, i2⟩ := keys_putF f v r
    rw [show putF f v ((k, x) :: r) = (if k = f then (k, v) :: r else (k, x) :: putF f v r) from rfl]
    by_cases hk : k = f
    · rw [if_pos hk]
      subst hk
      exact ⟨by simp, fun g h => by simpa using h⟩
    · rw [if_neg hk]
      refine ⟨?_, fun g h => ?_⟩
      · rw [List.map_cons]
        exact List.mem_cons_of_mem _ i1
      · rw [List.map_cons] at h ⊢
        rcases List.mem_cons.mp h with e | e
        · exact List.mem_cons.mpr (.inl e)
        · exact List.mem_cons_of_mem _ (i2 g e)
theorem length_putF (f : Str) (v : V) : ∀ fs : List (Str × V), (putF f v fs).length ≤ fs.length + 1
  | [] => by simp [putF]
  | (k, x) :: r => by
    have ih := length_putF f v r
    rw [show putF f v ((k, x) :: r) = (if k = f then (k, v) :: r else (k, x) :: putF f v r) from rfl]
    by_cases hk : k = f
    · rw [if_pos hk, List.length_cons, List.length_cons]; omega
    · rw [if_neg hk, List.length_cons, List.length_cons]; omega
theorem RelO.some_of {v : V} {o : Option Value} (r : RelO (some v) o) : ∃ u, o = some u ∧ RelV v u := by
  cases o with
  | none => exact (show False from r).elim
  | some u => exact ⟨u, rfl, r⟩
theorem handed_of {v : V} {u : Value} (r : RelV v u) : PySem.W.handedIn u = true := by
  cases v with
  | non => cases (show u = Value.none from r); rfl
  | bl b => cases (show u = Value.bool b from r); rfl
  | int i => obtain ⟨t, e⟩ := (show ∃ t, u = Value.int i t from r); cases e; rfl
  | str x => obtain ⟨t, e⟩ := (show ∃ t, u = Value.str x t from r); cases e; rfl
  | byt b => obtain ⟨t, e⟩ := (show ∃ t, u = Value.bytes b t from r); cases e; rfl
  | flt b => obtain ⟨t, e⟩ := (show ∃ t, u = Value.float b t from r); cases e; rfl
  | ref a => cases (show u = Value.ref a from r); rfl
  | ty n => cases (show u = Value.type n from r); rfl
section
variable {P : Program} {w : World} {H H' : Hp} {h h' : Heap} {a C dx : Addr} {fs fs' : List (Str × V)}
theorem ins_get (hok : HOk P w H h) (e : H a = some (.ins C dx fs)) : ∃ mA, ObjM h a dx C mA ∧ (∀ f, RelO (fs.lookup f) (mA f)) ∧ PySem.Within mA (fs.map (·.1)) ∧ fs.length ≤ 1000 ∧ H dx = some (.own a) := by
  obtain ⟨d, z, ne, ob, mA, n, r, q⟩ := (show ObjOk P w H h a (.ins C dx fs) from hok a _ e)
  exact ⟨mA, ⟨ob, n, ne⟩, r, q, z, d⟩
end
/-! ### what of the text a class must have -/
structure Cls (K : PySem.W.Frag) (C : Addr) : Prop where
  pg : PySem.W.plainGet K C Str.empty = true
  hd : PySem.W.hasDictIn K C = true
  po : PySem.W.plainOver K C = true
  sa : PySem.W.findIn K (.ref C) "__setattr__" = some (some (.builtin "object.__setattr__"))
theorem Cls.get {K : PySem.W.Frag} {C : Addr} (c : Cls K C) (f : Str) : PySem.W.plainGet K C f = true := c.pg
/-- no class of it has the name -/
def NoAttr (K : PySem.W.Frag) (C : Addr) (f : Str) : Prop := PySem.W.findIn K (.ref C) f = some none
theorem NoAttr.taker {K : PySem.W.Frag} {C : Addr} {f : Str} (n : NoAttr K C f) : PySem.W.takerIn K C f = some none := by
  unfold PySem.W.takerIn
  rw [show PySem.W.findIn K (.ref C) f = some none from n]
  rfl
section
variable {X : Cx} {pins : List (Addr × Obj)} {σ : St} {H : Hp} {s : Shared} {a C dx : Addr} {fs : List (Str × V)} {f : Str} {v : V} {A : Around} {E : Value → Shared → Prop}
theorem getattr_ok {b : Bool} {Q : Value → Shared → Prop} (I : Inv X pins σ H s) (e : H a = some (.ins C dx fs)) (c : Cls X.K C) (n : NoAttr X.K C f) (l : fs.lookup f = some v)
    (h : ∀ u s', Inv X pins σ H s' → RelV v u → Q u s') : wpAny (model X.prog X.w) A (getAttr (.ref a) f b) Q E s := by
  obtain ⟨mA, O, r, _, _, _⟩ := ins_get I.hok e
  obtain ⟨u, hu, ru⟩ := RelO.some_of (v := v) (o := mA f) (by rw [← l]; exact r f)
  exact get_map I.kIn O (c.get f) c.hd n hu (handed_of ru) (h u _ (I.tok _) ru)
theorem setattr_ok {y : V} {u : Value} {Q : Unit → Shared → Prop} (I : Inv X pins σ H s) (e : H a = some (.ins C dx fs)) (c : Cls X.K C) (n : NoAttr X.K C f) (hl : fs.length < 1000) (ry : RelV y u)
    (h : ∀ s', Inv X pins σ (upd H a (.ins C dx (putF f y fs))) s' → Q () s') : wpAny (model X.prog X.w) A (setAttr (.ref a) f u) Q E s := by
  obtain ⟨mA, O, r, wi, _, ho⟩ := ins_get I.hok e
  have hz : (fs.map (·.1)).length ≤ sizeLine := by rw [List.length_map, sizeLine_eq]; omega
  refine set_map I.kIn O c.sa c.po n.taker c.hd wi hz fun h' O' sb => h _ ?_
  have hd : ∃ o, h'.get? dx = some o := let ⟨o, _, _, e', _⟩ := O'.ns; ⟨o, e'⟩
  refine I.write (x := a) (e := dx) (by rw [e]; exact True.intro) (.inr ho) (fun b q hb z => (sb.2 b hb).trans z) hd ?_
  refine ⟨by rw [upd_ne O.ne]; exact ho, ?_, O.ne, O'.obj, _, O'.ns, fun g => ?_, fun g hg => ?_⟩
  · have := length_putF f y fs; omega
  · show RelO ((putF f y fs).lookup g) (if g = f then some u else mA g)
    rw [lookup_putF]
    by_cases q : g = f
    · rw [if_pos q, if_pos q]; exact ry
    · rw [if_neg q, if_neg q]; exact r g
  · by_cases q : g = f
    · rw [q]; exact (keys_putF f y fs).1
    · refine (keys_putF f y fs).2 g (wi g fun z => hg ?_)
      show (if g = f then some u else mA g) = none
      rw [if_neg q]; exact z
/-- a new instance, tracked, without attributes -/
theorem Inv.made (I : Inv X pins σ H s) : Inv X pins σ (upd (upd H s.heap.objs.size (.own (s.heap.objs.size + 1))) (s.heap.objs.size + 1) (.ins C s.heap.objs.size []))
    { s with heap := (s.heap.push PySem.W.emptyDict).push (PySem.W.instObj C s.heap.objs.size) } := by
  have e1 : (s.heap.push PySem.W.emptyDict).get? s.heap.objs.size = some PySem.W.emptyDict := Heap.get?_push_size s.heap rfl
  have e2 : ((s.heap.push PySem.W.emptyDict).push (PySem.W.instObj C s.heap.objs.size)).get? (s.heap.objs.size + 1) = some (PySem.W.instObj C s.heap.objs.size) := by
    have := Heap.get?_push_size (s.heap.push PySem.W.emptyDict) (o := PySem.W.instObj C s.heap.objs.size) rfl
    rwa [Heap.size_push] at this
  have e3 : (s.heap.push PySem.W.emptyDict).Ns s.heap.objs.size (fun _ => none) := ⟨PySem.W.emptyDict, #[], _, e1, rfl, (fun e he => absurd he (by simp)), fun _ => rfl⟩
  have I1 := I.laid (a := s.heap.objs.size) (o := .own (s.heap.objs.size + 1)) (h' := s.heap.push PySem.W.emptyDict) (t' := s.toks) (fun b u q => Heap.get?_push_of_some _ q) (Nat.le_refl _) ⟨_, e1⟩
  refine I1.laid (a := s.heap.objs.size + 1) (o := .ins C s.heap.objs.size []) (t' := s.toks) (fun b u q => Heap.get?_push_of_some _ q) (Nat.le_of_eq (Heap.size_push _ _)) ?_
  have ne : s.heap.objs.size ≠ s.heap.objs.size + 1 := Nat.ne_of_lt (Nat.lt_succ_self _)
  refine ⟨by rw [upd_ne ne, upd_same], Nat.zero_le _, ne, e2, fun _ => none, (Heap.Ns1.of_empty e3).at fun o q => Heap.get?_push_of_some _ q, fun _ => True.intro, fun y hy => absurd rfl hy⟩
/-- e.f where nothing but the object is asked: through attributeBase (super) and the last hold -/
theorem attr_of {prog : Program} {w : World} {env : Env} {e : Expr} {f : Str} {pos : Pos} {s : Shared} {Q : Value → Shared → Prop} (hb : attributeBase e f env (eval e env) = eval e env)
    (h : wpAny (model prog w) A (eval e env) (fun o s₁ => wpAny (model prog w) A (getAttr o f true) Q E s₁) E s) : wpAny (model prog w) A (eval (.Attribute e f pos) env) Q E s :=
  Attribute_any_ h (by rw [arm_eval_Attribute, hb])
end
/-! ### readings and rules -/
/-- e.f, an attribute of the instance -/
def tFld (K : PySem.W.Frag) (ta : TE) (f : Str) : TE := fun σ H Q => ta σ H fun x H1 => ∃ a C dx fs v, x = .ref a ∧ H1 a = some (.ins C dx fs) ∧ Cls K C ∧ NoAttr K C f ∧ fs.lookup f = some v ∧ Q v H1
/-- e.f = value -/
def sFld (K : PySem.W.Frag) (ta tv : TE) (f : Str) : TS := fun D σ H => tv σ H fun y H1 => ta σ H1 fun x H2 => ∃ a C dx fs, x = .ref a ∧ H2 a = some (.ins C dx fs) ∧ Cls K C ∧ NoAttr K C f ∧ fs.length < 1000 ∧
  D.nx σ (upd H2 a (.ins C dx (putF f y fs)))
section
variable {X : Cx} {o e value : Expr} {f : Str} {pos pos' tpos : Pos} {ta tv : TE}
theorem pe_fld (he : PE X e ta) (hb : attributeBase e f X.env (eval e X.env) = eval e X.env) : PE X (.Attribute e f pos) (tFld X.K ta f) := by
  intro pins s σ H Q I h
  refine attr_of hb (thn (he pins s σ H _ I h) fun u s1 ⟨x, H1, I1, rx, a, C, dx, fs, v, ex, ea, c, n, l, q⟩ => ?_)
  subst ex
  obtain rfl : u = Value.ref a := rx
  exact getattr_ok I1 ea c n l fun u' s2 I2 ru => ⟨v, H1, I2, ru, q⟩
theorem ps_fld (ha : PE X o ta) (hv : PE X value tv) (hs : swapsWith value (some (.Attribute o f pos')) pos.line X.env = pure false) : PS X (.Assign [.Attribute o f pos'] value pos) (sFld X.K ta tv f) := by
  intro pins s σ H D I h
  refine plainObj_wpAny_Assign_Attribute (thn (hv pins s σ H _ I h) fun u s1 ⟨y, H1, I1, ry, q⟩ => thn (ha pins s1 σ H1 _ I1 q) fun ov s2 ⟨x, H2, I2, rx, a, C, dx, fs, ex, ea, c, n, l, q2⟩ => ?_) hs
  subst ex
  obtain rfl : ov = Value.ref a := rx
  exact setattr_ok I2 ea c n l ry fun s3 I3 => ⟨σ, _, I3, q2⟩
end
/-! ### isinstance -/
section
variable {X : Cx} {pins : List (Addr × Obj)} {σ : St} {H : Hp} {s : Shared} {A : Around} {E : Value → Shared → Prop} {Q : Value → Shared → Prop} {c : Value} {b : Bool}
end
end L2
namespace L2
open PySem PySem.Spec PyProof.Rows
/-! ### room -/
structure Room (k : Nat) (A : Around) : Prop where
  hd : A.handled = none
  dp : A.depth + 3 * k + 5 < recursionLimit
  un : A.units + 16 * k + 200 < cLine
theorem Room.mono {j k : Nat} {A : Around} (r : Room k A) (h : j ≤ k) : Room j A := ⟨r.hd, by have := r.dp; omega, by have := r.un; omega⟩
theorem Room.deeper {k : Nat} {A : Around} (r : Room (k + 1) A) (env : Env) : Room k (A.deeper env) :=
  ⟨r.hd, by have := r.dp; show A.depth + 1 + 3 * k + 5 < _; omega, by have := r.un; show A.units + 3 + 16 * k + 200 < _; omega⟩
theorem make_depth {A : Around} {C : Addr} {us : List Value} {kw : List (Str × Value)} : (A.under (.builtin "type.__call__" ⟨.ref C :: us, kw⟩)).depth = A.depth + 1 := by
  first | rfl | simp [Around.under, Code.weight, Code.isCreation, Code.isGuard, Code.isCaller, Code.frames, Code.isFrame, guardIds]
theorem make_units {A : Around} {C : Addr} {us : List Value} {kw : List (Str × Value)} : (A.under (.builtin "type.__call__" ⟨.ref C :: us, kw⟩)).units = A.units + 1 := by
  first | rfl | simp [Around.under, Code.cUnits, Code.frames, Code.isFrame]
theorem Room.make {k : Nat} {A : Around} (r : Room (k + 1) A) (C : Addr) (us : List Value) (kw : List (Str × Value)) : Room k (A.under (.builtin "type.__call__" ⟨.ref C :: us, kw⟩)) :=
  ⟨r.hd, by have := r.dp; rw [make_depth]; omega, by have := r.un; rw [make_units]; omega⟩
theorem Room.depth {k : Nat} {A : Around} (r : Room k A) : A.depth < recursionLimit := by have := r.dp; omega
theorem Room.units {k : Nat} {A : Around} (r : Room k A) : A.units + 64 < cLine := by have := r.un; omega
/-! ### argument lists and displays -/
def tNil : TA := fun _ H Q => Q [] H
def tCons (ta : TE) (tr : TA) : TA := fun σ H Q => ta σ H fun x H1 => tr σ H1 fun xs H2 => Q (x :: xs) H2
section
variable {X : Cx} {e : Expr} {es : List Expr} {te : TE} {t : TA} {pos : Pos}
theorem pa_nil : PA X [] tNil := fun _ _ _ _ H Q I h => Calls.spliced_nil ⟨[], H, I, .nil, h⟩
theorem pa_cons (ha : PE X e te) (hr : PA X es t) (hs : starEach (e :: es) X.env = (false, eval e X.env) :: starEach es X.env := by rfl) : PA X (e :: es) (tCons te t) := by
  intro pos pins s σ H Q I h
  rw [hs]
  show wpAny _ _ (spliced ((false, eval e X.env) :: backTo pos (starEach es X.env))) _ _ s
  refine Calls.spliced_cons (thn (ha pins s σ H _ I h) fun u s1 ⟨x, H1, I1, r1, q1⟩ => ?_)
  exact thn (hr pos pins s1 σ H1 _ I1 q1) fun us s2 ⟨xs, H2, I2, r2, q2⟩ => ⟨x :: xs, H2, I2, .cons r1 r2, q2⟩
/-- a tuple, a list of written items -/
def tTup (t : TA) : TE := fun σ H Q => t σ H fun xs H1 => xs.length ≤ sizeLine ∧ ∀ p, H1 p = none → Q (.ref p) (upd H1 p (.tup xs))
def tLst (t : TA) : TE := fun σ H Q => t σ H fun xs H1 => xs.length ≤ sizeLine ∧ ∀ p, H1 p = none → Q (.ref p) (upd H1 p (.lst xs))
theorem pe_tup {x1} (h : PA X es t) : PE X (.Tuple es x1 pos) (tTup t) := by
  intro pins s σ H Q I hq
  refine wpAny_Tuple_spliced (thn (h pos pins s σ H _ I hq) fun us s1 ⟨xs, H1, I1, r, z, q⟩ => ⟨by rw [← r.length]; exact z, ?_⟩)
  have hf : H1 s1.heap.objs.size = none := I1.hok.fresh (Nat.le_refl _)
  refine ⟨.ref s1.heap.objs.size, upd H1 s1.heap.objs.size (.tup xs), I1.laid (t' := s1.toks) (fun b u e => Heap.get?_push_of_some _ e) (Nat.le_refl _) ?_, rfl, q _ hf⟩
  exact ⟨z, us, r, ⟨_, Heap.get?_push_size _ rfl, rfl, _, rfl⟩⟩
theorem pe_lst (h : PA X es t) : PE X (.List es pos) (tLst t) := by
  intro pins s σ H Q I hq
  refine wpAny_List_spliced (thn (h pos pins s σ H _ I hq) fun us s1 ⟨xs, H1, I1, r, z, q⟩ => ⟨by rw [← r.length]; exact z, ?_⟩)
  have hf : H1 s1.heap.objs.size = none := I1.hok.fresh (Nat.le_refl _)
  refine ⟨.ref s1.heap.objs.size, upd H1 s1.heap.objs.size (.lst xs), I1.laid (t' := s1.toks) (fun b u e => Heap.get?_push_of_some _ e) (Nat.le_refl _) ?_, rfl, q _ hf⟩
  exact ⟨z, us, 0, r, Heap.get?_push_size _ rfl⟩
end
/-! ### what a def promises -/
/-- a def's promise: the bound arguments in the parameters' order, the heap, the wanted end, the wanted exception -/
abbrev Sp := List V → Hp → VK → XK → Prop
/-- how an exception lies behind a call (file 08 gives it): the callers' frames, abstract heap and state ahead of the call, the wish, the exception, the state -/
abbrev CXT := List Env → Hp → Shared → XK → Value → Shared → Prop
/-- the state at a call -/
structure Env0 (P : Program) (w : World) (K : PySem.W.Frag) (mg : Str → Option Value) (base : Heap) (A : Around) (outer : List Env) (s : Shared) (H : Hp) : Prop where
  frames : A.frames = some outer
  mod : Mod K mg base
  bs : ∀ b o, base.get? b = some o → s.heap.get? b = some o ∧ H b = none
  bsz : base.objs.size ≤ s.heap.objs.size
  funs : s.heap.FunFrames base outer
  frf : ∀ b ∈ frs outer, H b = none
  hok : HOk P w H s.heap
  bare : AllBare s.gens
/-- a call's end -/
def CE (outer : List Env) (P : Program) (w : World) (H : Hp) (s : Shared) (Q : VK) (u : Value) (s' : Shared) : Prop :=
  ∃ v H', s'.os = s.os ∧ AllBare s'.gens ∧ Un (frs outer) [] H H' s.heap s'.heap ∧ HOk P w H' s'.heap ∧ RelV v u ∧ Q v H'
def CR (CX : CXT) (outer : List Env) (P : Program) (w : World) (H : Hp) (s : Shared) (Q : VK) (E : XK) (r : Result) (s' : Shared) : Prop :=
  match r with
  | .ok (.ret u) => CE outer P w H s Q u s'
  | .ok _ => False
  | .error e => CX outer H s E e s'
structure FnOk (P : Program) (w : World) (K : PySem.W.Frag) (mg : Str → Option Value) (base : Heap) (CX : CXT) (k : Nat) (f : Addr) (fd : FuncData) (ps : List Str) (sp : Sp) : Prop where
  len : ∀ vs H Q E, sp vs H Q E → vs.length = ps.length
  run : ∀ (A : Around) (outer : List Env) (s : Shared) (H : Hp) (args : Args) (us : List Value) (vs : List V) (Q : VK) (E : XK), Room k A → Env0 P w K mg base A outer s H → BindsTo s fd args (ps.zip us) → Vals vs us → sp vs H Q E →
    codeAny (model P w) A (.call (.ref f) args) (CR CX outer P w H s Q E) s
theorem Env0.make {P : Program} {w : World} {K : PySem.W.Frag} {mg : Str → Option Value} {base : Heap} {A : Around} {outer : List Env} {s : Shared} {H : Hp} (e : Env0 P w K mg base A outer s H) (C : Addr) (us : List Value) (kw : List (Str × Value)) :
    Env0 P w K mg base (A.under (.builtin "type.__call__" ⟨.ref C :: us, kw⟩)) outer s H := ⟨by first | exact e.frames | (simpa [Around.under, Code.envs, Code.isFrame, pushEnvs] using e.frames), e.mod, e.bs, e.bsz, e.funs, e.frf, e.hok, e.bare⟩
section
variable {X : Cx} {pins : List (Addr × Obj)} {σ : St} {H : Hp} {s s' : Shared}
/-- from a body: what a callee wants -/
theorem Inv.env0 (I : Inv X pins σ H s) : Env0 X.prog X.w X.K X.mg X.base X.A X.stack s H :=
  ⟨I.ok.frames, I.ok.mod, I.bs, Nat.le_trans I.ok.bsz I.sz, I.stack, I.stkFree, I.hok, I.bare⟩
/-- behind a call -/
theorem Inv.after {Q : VK} {u : Value} (I : Inv X pins σ H s) (h : CE X.stack X.prog X.w H s Q u s') : EP X pins σ Q u s' := by
  obtain ⟨v, H', os, bare, un, hok, r, q⟩ := h
  obtain ⟨hh, g, d, t, os'⟩ := s'
  obtain rfl : os' = s.os := os
  exact ⟨v, H', I.call (h' := hh) (g' := g) (d' := d) (t' := t) (ch := []) un hok bare (fun b z => absurd z (by simp)), r, q⟩
end
/-! ### calls -/
/-- f(..): the written arguments, then the defaults dvs; E: what is wanted of an exception -/
def tCall (sp : Sp) (dvs : List V) (E : XK) (t : TA) : TE := fun σ H Q => t σ H fun vs H1 => sp (vs ++ dvs) H1 Q E
/-- C(..): a new instance and its dict, then __init__ -/
def tMake (C : Addr) (sp : Sp) (dvs : List V) (E : XK) (t : TA) : TE := fun σ H Q => t σ H fun vs H1 => ∀ x dx, H1 x = none → H1 dx = none → dx ≠ x →
  sp (.ref x :: (vs ++ dvs)) (upd (upd H1 dx (.own x)) x (.ins C dx [])) (fun v H2 => v = .non ∧ Q (.ref x) H2) E
/-- how the parameters are bound: us the positional arguments, kw the keywords' values by name, ds the defaults that fill up -/
def Binds (K : PySem.W.Frag) (fd : FuncData) (ps : List Str) (ds : List Value) : Prop :=
  ∀ (s : Shared) (us : List Value), K.In s.heap → (us ++ ds).length = ps.length → BindsTo s fd ⟨us, []⟩ (ps.zip (us ++ ds))
/-- every parameter is given -/
theorem Binds.all {K : PySem.W.Frag} {fd : FuncData} {ps : List Str} (h : ∀ us : List Value, us.length = ps.length → bindArgs fd ⟨us, []⟩ = pure (ps.zip us)) : Binds K fd ps [] := fun s us _ hl => by
  rw [List.append_nil] at hl ⊢
  exact .of_eq (h us hl)
/-- an exception of a callee reaches what this body wants of exceptions -/
def Passes (CX : CXT) (X : Cx) (E : XK) : Prop := ∀ (pins : List (Addr × Obj)) (σ : St) (H : Hp) (s : Shared) (e : Value) (s' : Shared), Inv X pins σ H s → CX X.stack H s E e s' → X.xe e s'
section
variable {X : Cx} {CX : CXT} {k : Nat} {f C : Addr} {fd : FuncData} {ps : List Str} {sp : Sp} {dvs : List V} {ds : List Value} {E : XK} {x m : Str} {p pos apos : Pos} {e o : Expr} {es : List Expr} {ta : TE} {t : TA}
/-- the callee runs -/
theorem run_fn {pins : List (Addr × Obj)} {σ : St} {H : Hp} {s : Shared} {Q : VK} {us : List Value} {vs : List V} (F : FnOk X.prog X.w X.K X.mg X.base CX k f fd ps sp) (hr : Room k X.A) (hb : Binds X.K fd ps ds) (hd : Vals dvs ds) (hx : Passes CX X E)
    (I : Inv X pins σ H s) (r : Vals vs us) (h : sp (vs ++ dvs) H Q E) : wpAny (model X.prog X.w) X.A (call (.ref f) us) (EP X pins σ Q) X.xe s := by
  have r2 : Vals (vs ++ dvs) (us ++ ds) := r.append hd
  have hl : (us ++ ds).length = ps.length := by rw [← r2.length]; exact F.len _ _ _ _ h
  refine wpAny_call (codeAny_mono (F.run X.A X.stack s H ⟨us, []⟩ (us ++ ds) (vs ++ dvs) Q E hr I.env0 (hb s us I.kIn hl) r2 h) fun r s' hq => ?_)
  cases r with
  | error e => exact hx pins σ H s e s' I hq
  | ok fl =>
    cases fl with
    | ret u => exact I.after hq
    | next => exact False.elim hq
    | brk => exact False.elim hq
    | cont => exact False.elim hq
theorem pe_call (F : FnOk X.prog X.w X.K X.mg X.base CX k f fd ps sp) (hr : Room k X.A) (hg : Gl X x) (hm : X.mg x = some (.ref f)) (hk : PySem.W.keepIn X.K (.ref f) = true) (hb : Binds X.K fd ps ds) (hd : Vals dvs ds) (hx : Passes CX X E)
    (ha : PA X (e :: es) t) (hdb : (x == ("__debug__" : Str)) = false := by decide) (he : starEach (e :: es) X.env = (false, eval e X.env) :: starEach es X.env := by rfl) (hpl : (backTo pos (starEach es X.env)).any (·.1) = false := by rfl) :
    PE X (.Call (.Name x p) (e :: es) [] pos) (tCall sp dvs E t) := by
  intro pins s σ H Q I h
  refine wpAny_Call_Name_kw (ld_glob I hg hm ?_ hdb)
  refine PySem.W.callWith_K (h₀ := X.base) I.ok.mod.kin hk (thn (ha pos pins s σ H _ I h) fun us s1 ⟨vs, H1, I1, r, q⟩ => ⟨I1.kIn, ?_⟩) he hpl
  exact run_fn F hr hb hd hx I1 r q
/-- what a class must have to be made -/
structure Mk (K : PySem.W.Frag) (C f : Addr) : Prop where
  makes : PySem.W.makesIn K C = true
  init : PySem.W.findIn K (.ref C) "__init__" = some (some (.ref f))
  fn : PySem.W.isFn K (.ref f) = true
  kp : PySem.W.keepIn K (.ref C) = true
theorem run_make {pins : List (Addr × Obj)} {σ : St} {H : Hp} {s : Shared} {Q : VK} {us : List Value} {vs : List V} (M : Mk X.K C f) (F : FnOk X.prog X.w X.K X.mg X.base CX k f fd ps sp) (hr : Room (k + 1) X.A) (hb : Binds X.K fd ps ds) (hd : Vals dvs ds)
    (hx : Passes CX X E) (I : Inv X pins σ H s) (r : Vals vs us)
    (h : ∀ x dx, H x = none → H dx = none → dx ≠ x → sp (.ref x :: (vs ++ dvs)) (upd (upd H dx (.own x)) x (.ins C dx [])) (fun v H2 => v = .non ∧ Q (.ref x) H2) E) :
    wpAny (model X.prog X.w) X.A (call (.ref C) us) (EP X pins σ Q) X.xe s := by
  have hq := h (s.heap.objs.size + 1) s.heap.objs.size (I.hok.fresh (Nat.le_succ _)) (I.hok.fresh (Nat.le_refl _)) (Nat.ne_of_lt (Nat.lt_succ_self _))
  have I2 := Inv.made (C := C) I
  have r2 : Vals (V.ref (s.heap.objs.size + 1) :: (vs ++ dvs)) (Value.ref (s.heap.objs.size + 1) :: (us ++ ds)) := .cons rfl (r.append hd)
  have hl : (Value.ref (s.heap.objs.size + 1) :: us ++ ds).length = ps.length := by
    have e := r2.length
    rw [F.len _ _ _ _ hq] at e
    exact e.symm
  refine wpAny_call (make_map (f := f) I.kIn M.makes M.init (beq_iff_eq.mp M.fn) (codeAny_mono (F.run _ X.stack _ _ ⟨Value.ref (s.heap.objs.size + 1) :: us, []⟩ (Value.ref (s.heap.objs.size + 1) :: (us ++ ds)) _ _ E (hr.make C us [])
    (I2.env0.make C us []) (hb _ (Value.ref (s.heap.objs.size + 1) :: us) I2.kIn hl) r2 hq) fun r s' hq' => ?_))
  cases r with
  | error e => exact hx pins σ _ _ e s' I2 hq'
  | ok fl =>
    cases fl with
    | ret u =>
      obtain ⟨v, H', I3, rv, ev, q3⟩ := I2.after hq'
      subst ev
      exact ⟨rv, ⟨V.ref (s.heap.objs.size + 1), H', I3, rfl, q3⟩⟩
    | next => exact False.elim hq'
    | brk => exact False.elim hq'
    | cont => exact False.elim hq'
theorem pe_make (M : Mk X.K C f) (F : FnOk X.prog X.w X.K X.mg X.base CX k f fd ps sp) (hr : Room (k + 1) X.A) (hg : Gl X x) (hm : X.mg x = some (.ref C)) (hb : Binds X.K fd ps ds) (hd : Vals dvs ds) (hx : Passes CX X E)
    (ha : PA X (e :: es) t) (hdb : (x == ("__debug__" : Str)) = false := by decide) (he : starEach (e :: es) X.env = (false, eval e X.env) :: starEach es X.env := by rfl) (hpl : (backTo pos (starEach es X.env)).any (·.1) = false := by rfl) :
    PE X (.Call (.Name x p) (e :: es) [] pos) (tMake C sp dvs E t) := by
  intro pins s σ H Q I h
  refine wpAny_Call_Name_kw (ld_glob I hg hm ?_ hdb)
  refine PySem.W.callWith_K (h₀ := X.base) I.ok.mod.kin M.kp (thn (ha pos pins s σ H _ I h) fun us s1 ⟨vs, H1, I1, r, q⟩ => ⟨I1.kIn, ?_⟩) he hpl
  exact run_make M F hr hb hd hx I1 r q
end
/-! ### keywords -/
section
variable {X : Cx} {CX : CXT} {k : Nat} {f C : Addr} {fd : FuncData} {ps ks : List Str} {sp : Sp} {E : XK} {x m : Str} {p pos apos kpos : Pos} {e o : Expr} {es : List Expr} {kws : List Keyword} {te ta : TE} {t tk : TA} {nm : Option Str}
variable {g : List Value → List Value → List Value} {gV : List V → List V → List V}
end
/-! ### a def's body keeps its promise -/
/-- names: the parameters first -/
structure FnScope (N P : List Str) (sc : Scope) : Prop where
  kind : sc.kind = .function
  co : sc.isCoroutine = false
  gen : sc.isGenerator = false
  nd : N.Nodup
  pre : N.take P.length = P
  par : ∀ x ∈ P, sc.names.lookup x = some .local ∨ sc.names.lookup x = some .cell
  nofree : ∀ y ∈ sc.names, y.2 ≠ .free
theorem bindL_out {kindOf : Str → Option NameKind} {x : Str} : ∀ {binds : List (Str × Value)} {m : Str → Option Value}, (∀ v, (x, v) ∉ binds) → bindL kindOf binds m x = m x
  | [], _, _ => rfl
  | (n, v) :: r, m, h => by
    unfold bindL
    rw [bindL_out fun w hw => h w (List.mem_cons_of_mem _ hw)]
    split
    · have : x ≠ n := by rintro rfl; exact h v List.mem_cons_self
      simp [this]
    · rfl
theorem bindC_out {kindOf : Str → Option NameKind} {x : Str} : ∀ {binds : List (Str × Value)} {m : Str → Option Value}, (∀ v, (x, v) ∉ binds) → bindC kindOf binds m x = m x
  | [], _, _ => rfl
  | (n, v) :: r, m, h => by
    unfold bindC
    rw [bindC_out fun w hw => h w (List.mem_cons_of_mem _ hw)]
    split
    · rfl
    · have : x ≠ n := by rintro rfl; exact h v List.mem_cons_self
      simp [this]
theorem bindL_get {kindOf : Str → Option NameKind} {x : Str} {v : Value} : ∀ {P : List Str} {vs : List Value} {i : Nat} {m : Str → Option Value}, P.Nodup → P[i]? = some x → vs[i]? = some v → kindOf x = some .local →
    bindL kindOf (P.zip vs) m x = some v
  | [], _, _, _, _, h, _, _ => by simp at h
  | _ :: _, [], _, _, _, _, h, _ => by simp at h
  | p :: P, w :: vs, 0, m, nd, h1, h2, hk => by
    simp at h1 h2; subst h1; subst h2
    show bindL kindOf ((p, w) :: P.zip vs) m p = _
    unfold bindL
    rw [bindL_out fun v hv => (List.nodup_cons.mp nd).1 (List.of_mem_zip hv).1, if_pos hk]
    simp
  | p :: P, w :: vs, i + 1, m, nd, h1, h2, hk => by
    show bindL kindOf ((p, w) :: P.zip vs) m x = _
    unfold bindL
    exact bindL_get (i := i) (List.nodup_cons.mp nd).2 (by simpa using h1) (by simpa using h2) hk
theorem bindC_get {kindOf : Str → Option NameKind} {x : Str} {v : Value} : ∀ {P : List Str} {vs : List Value} {i : Nat} {m : Str → Option Value}, P.Nodup → P[i]? = some x → vs[i]? = some v → kindOf x ≠ some .local →
    bindC kindOf (P.zip vs) m x = some v
  | [], _, _, _, _, h, _, _ => by simp at h
  | _ :: _, [], _, _, _, _, h, _ => by simp at h
  | p :: P, w :: vs, 0, m, nd, h1, h2, hk => by
    simp at h1 h2; subst h1; subst h2
    show bindC kindOf ((p, w) :: P.zip vs) m p = _
    unfold bindC
    rw [bindC_out fun v hv => (List.nodup_cons.mp nd).1 (List.of_mem_zip hv).1, if_neg hk]
    simp
  | p :: P, w :: vs, i + 1, m, nd, h1, h2, hk => by
    show bindC kindOf ((p, w) :: P.zip vs) m x = _
    unfold bindC
    exact bindC_get (i := i) (List.nodup_cons.mp nd).2 (by simpa using h1) (by simpa using h2) hk
/-- the names' values at the entry -/
def start (N : List Str) (vs : List V) : St := vs.map some ++ List.replicate (N.length - vs.length) none
/-- the context of a def's body, at its entry; an exception leaves the frame, then lies as CX says -/
def cxOf (CX : CXT) (P : Program) (w : World) (K : PySem.W.Frag) (mg : Str → Option Value) (base : Heap) (N : List Str) (qual : Str) (scope : Scope) (f : Addr) (cd : Value) (A : Around) (outer : List Env) (s : Shared) (H : Hp) (E : XK) : Cx where
  prog := P
  w := w
  K := K
  mg := mg
  base := base
  A := A.deeper (envOfC qual scope s.heap.objs.size f cd)
  N := N
  s_0 := s
  H_0 := H
  env := envOfC qual scope s.heap.objs.size f cd
  outer := outer
  stack := envOfC qual scope s.heap.objs.size f cd :: outer
  ex := []
  calm := true
  fn := fun _ => true
  pn := []
  xe := fun e s' => wpAny (model P w) (A.deeper (envOfC qual scope s.heap.objs.size f cd)) (leaving (envOfC qual scope s.heap.objs.size f cd) e) (fun _ s'' => CX outer H s E e s'') (fun e' s'' => CX outer H s E e' s'') s'
theorem cell_has {sc : Scope} {n : Nat} {x : Str} (h : sc.names.lookup x = some .cell) : ∃ c, (cellsFrom n sc.names []).lookup x = some c := by
  have q := PySem.W.cellsFrom_some sc.names n [] (.inl h)
  exact Option.isSome_iff_exists.mp q
theorem inv_start {CX : CXT} {P : Program} {w : World} {K : PySem.W.Frag} {mg : Str → Option Value} {base : Heap} {N ps : List Str} {qual : Str} {scope : Scope} {f : Addr} {cd : Value} {A : Around} {outer : List Env} {s s1 : Shared} {H : Hp} {E : XK} {us : List Value} {vs : List V}
    (S : FnScope N ps scope) (hd : A.handled = none) (e0 : Env0 P w K mg base A outer s H) (hl : vs.length = ps.length) (r : Vals vs us)
    (x : InCallC s s.heap.objs.size (bindL (envOfC qual scope s.heap.objs.size f cd).kindOf (ps.zip us) fun _ => none) (cellsFrom (s.heap.objs.size + 1) scope.names []) (bindC (envOfC qual scope s.heap.objs.size f cd).kindOf (ps.zip us) fun _ => none) s1) :
    Inv (cxOf CX P w K mg base N qual scope f cd A outer s H E) [] (start N vs) H s1 := by
  have hpl : ps.length ≤ N.length := by have := congrArg List.length S.pre; rw [List.length_take] at this; omega
  obtain ⟨h1, tk, rfl, hk⟩ := x.done
  have noA : ∀ b : Addr, b ∉ (cxOf CX P w K mg base N qual scope f cd A outer s H E).ex := fun b z => absurd (show b ∈ ([] : List Addr) from z) (by simp)
  refine ⟨⟨e0.mod, S.kind, rfl, rfl, Nat.le_refl _, fun y z c h1 h2 => ?_, fun y hy => ?_, fun y c _ h => ?_, fun _ => hd, Around.frames_deeper e0.frames, .inr ⟨rfl, rfl⟩, fun b z => absurd z (noA b), e0.bs, e0.bsz, fun b _ _ => noA b, fun b z => absurd z (noA b), e0.funs, e0.frf⟩,
    rfl, e0.bare, Un.kept hk, ⟨_, x.toInCall.ns, fun i y v h1 h2 h3 => ?_⟩, fun y c h => ⟨_, x.cell y c h⟩, e0.hok.fresh (Nat.le_refl _), fun y c h => ?_, fun p hp => absurd (show p ∈ ([] : List (Addr × Obj)) from hp) (by simp), e0.hok.kept hk, ?_⟩
  · exact name_of_addr x.apart (PySem.mem_of_lookup h1) (PySem.mem_of_lookup h2)
  · have hy : scope.names.lookup y = some .cell ∨ scope.names.lookup y = some .free := hy
    rcases hy with hy | hy
    · exact cell_has hy
    · exact absurd rfl (S.nofree _ (PySem.mem_of_lookup hy))
  · exact Nat.le_of_lt (x.above y c (PySem.mem_of_lookup h))
  · have hi : i < vs.length := by
      unfold start at h2
      by_cases hi : i < vs.length
      · exact hi
      · rw [List.getElem?_append_right (by simpa using hi)] at h2
        rw [List.getElem?_replicate] at h2
        split at h2 <;> cases h2
    have ha : vs[i]? = some v := by
      unfold start at h2
      rw [List.getElem?_append_left (by simpa using hi), List.getElem?_map] at h2
      cases e : vs[i]? with
      | none => rw [e] at h2; cases h2
      | some a => rw [e] at h2; cases h2; rfl
    obtain ⟨u, hu, rv⟩ := r.get ha
    have hp : ps[i]? = some y := by
      rw [← S.pre, List.getElem?_take_of_lt (by omega)]; exact h1
    have ndP : ps.Nodup := by rw [← S.pre]; exact S.nd.sublist (List.take_sublist _ _)
    refine ⟨u, rv, ?_⟩
    rcases S.par y (List.mem_of_getElem? hp) with k | k
    · exact .inl ⟨k, bindL_get ndP hp hu k⟩
    · obtain ⟨c, e⟩ := cell_has (n := s.heap.objs.size + 1) k
      refine .inr ⟨.inl k, c, e, ?_⟩
      have q := x.cell y c e
      rw [bindC_get ndP hp hu (by show scope.names.lookup y ≠ _; rw [k]; decide)] at q
      exact q
  · exact e0.hok.fresh (Nat.le_of_lt (x.above y c (PySem.mem_of_lookup h)))
  · unfold start
    show _ = N.length
    rw [List.length_append, List.length_map, List.length_replicate]
    omega
/-- THE RULE: a def (or a method) of the text, by its body. The body's reading t is chosen for each entry; it is run at the parameters' values -/
theorem fn_of {CX : CXT} {P : Program} {w : World} {K : PySem.W.Frag} {mg : Str → Option Value} {base : Heap} {k : Nat} {f : Addr} {name qual : Str} {params : Arguments} {body : List Stmt} {scope : Scope} {dV kV doc pm cdv ct oc : Value} {an od : Option Addr}
    {osl : Array (Option Value)} {N ps : List Str} {sp : Sp} (lk : K.lookup f = some ⟨oc, od, .func (PySem.W.fnOf name qual params body scope dV kV doc pm an cdv ct), osl⟩) (hcd : PySem.W.codeIn K cdv qual = true) (S : FnScope N ps scope)
    (len : ∀ vs H Q E, sp vs H Q E → vs.length = ps.length)
    (hbody : ∀ (A : Around) (outer : List Env) (s : Shared) (H : Hp) (vs : List V) (Q : VK) (E : XK), Room k (A.deeper (envOfC qual scope s.heap.objs.size f cdv)) → sp vs H Q E →
      ∃ t, PSs (cxOf CX P w K mg base N qual scope f cdv A outer s H E) body t ∧ t { nx := fun _ H' => Q .non H', rt := Q } (start N vs) H) :
    FnOk P w K mg base CX (k + 1) f (PySem.W.fnOf name qual params body scope dV kV doc pm an cdv ct) ps sp := by
  refine ⟨len, fun A outer s H args us vs Q E hr e0 hb r hsp => ?_⟩
  have hl := len _ _ _ _ hsp
  have KX : K.In s.heap := e0.mod.kin.keeps fun b o e => (e0.bs b o e).1
  have lim : s.heap.NoLimit := e0.mod.nolimit.keeps fun b o e => (e0.bs b o e).1
  have hkind : ∀ y ∈ ps.zip us, scope.names.lookup y.1 = some .local ∨ (scope.names.lookup y.1 = some .cell ∧ ((cellsFrom (s.heap.objs.size + 1) scope.names []).lookup y.1).isSome = true) := fun ⟨n, v⟩ hy => by
    rcases S.par n (List.of_mem_zip hy).1 with q | q
    · exact .inl q
    · exact .inr ⟨q, PySem.W.cellsFrom_some _ _ _ (.inl q)⟩
  refine codeAny_call_function hr.depth (KX _ _ lk) rfl S.co S.gen rfl (PySem.W.codeRec_of KX hcd) (hb _ _ _ _ ?_)
  refine wpAny_newFunctionEnv_cells S.kind hkind fun env he s1 x => ?_
  subst he
  refine ⟨lim.keeps x.toInCall.keep, codeAny_func ?_⟩
  obtain ⟨t, ht, hq⟩ := hbody A outer s H vs Q E (hr.deeper _) hsp
  have I : Inv (cxOf CX P w K mg base N qual scope f cdv A outer s H E) [] (start N vs) H s1 := inv_start S hr.hd e0 hl r x
  refine wpAny_mono (ht [] s1 (start N vs) H _ I hq) (fun fl s' hs => ?_) fun e s' hs => hs
  have fin : ∀ {σ' : St} {H' : Hp} {v : V} {u : Value}, Inv (cxOf CX P w K mg base N qual scope f cdv A outer s H E) [] σ' H' s' → RelV v u → Q v H' → CE outer P w H s Q u s' :=
    fun {σ' H' v u} J rv q => ⟨v, H', J.os, J.bare, J.base, J.hok, rv, q⟩
  cases fl with
  | ret u =>
    obtain ⟨v, σ', H', J, rv, q⟩ := hs
    exact fin J rv q
  | next =>
    obtain ⟨σ', H', J, q⟩ := hs
    exact fin (v := V.non) (u := Value.none) J rfl q
  | brk =>
    obtain ⟨_, _, _, q⟩ := hs
    exact False.elim q
  | cont =>
    obtain ⟨_, _, _, q⟩ := hs
    exact False.elim q
end L2
namespace L2
open PySem PySem.Spec PyProof.Rows
section
variable {X : Cx} {x : Str} {p pos : Pos} {e : Expr} {es : List Expr} {t : TA} {id T : String} {r : List V → Hp → VK → Prop}
def tCB (r : List V → Hp → VK → Prop) (t : TA) : TE := fun σ H Q => t σ H fun vs H1 => r vs H1 Q
/-- f(e, ..), f a built-in function -/
theorem pe_callB (hc : CallR X (.builtin id) r) (hg : Gl X x) (hm : X.mg x = none) (hv : bootBuiltins x = some (.builtin id)) (ha : PA X (e :: es) t) (hn : x ≠ "__name__" := by decide) (hdb : (x == ("__debug__" : Str)) = false := by decide)
    (he : starEach (e :: es) X.env = (false, eval e X.env) :: starEach es X.env := by rfl) (hpl : (backTo pos (starEach es X.env)).any (·.1) = false := by rfl) : PE X (.Call (.Name x p) (e :: es) [] pos) (tCB r t) := by
  intro pins s σ H Q I h
  refine wpAny_Call_Name_kw (ld_blt I hg hm hv ?_ hn hdb)
  exact PyProof.Rows.callWith_builtin1 (thn (ha pos pins s σ H _ I h) fun us s1 ⟨vs, H1, I1, r1, q1⟩ => hc pins s1 σ H1 vs us Q I1 r1 q1) he hpl
end
end L2
namespace HT
open PySem PyProof.Rows
section
open PySem.SeqAt
open PySem.AutoSeq1 (wpAny_loadPart')
open PySem.MeetsSeq PySem.MeetsSeq2 PySem.MeetsSeq3
end
section
variable {prog : Program} {w : World} {A : Around} {E : Value → Shared → Prop} {s : Shared}
/-! ### t[a:b], not the whole -/
end
end HT
namespace L2
open PySem PySem.Spec PyProof.Rows
/-! ### the parts of a slice -/
section
variable {X : Cx} {e : Expr} {te : TE} {lo hi : Option Expr} {tl th : TO} {pos p2 : Pos}
/-! ### t < u, t + u -/
end
end L2
namespace L2
open PySem PySem.Spec PyProof.Rows
/-! ### places -/
/-- the place that an index of any sign means -/
def ixN (n : Nat) (i : Int) : Option Nat := if 0 ≤ i then (if i < n then some i.toNat else none) else if -(n : Int) ≤ i then some (i + n).toNat else none
def atI {α : Type} (xs : List α) (i : Int) : Option α := (ixN xs.length i).bind fun j => xs[j]?
theorem ixN_seq {n : Nat} {i : Int} {j : Nat} (h : ixN n i = some j) : seqIndex? i n = some j ∧ j < n ∧ -(n : Int) ≤ i ∧ i < n := by
  unfold ixN at h
  by_cases h0 : 0 ≤ i
  · rw [if_pos h0] at h
    by_cases h1 : i < n
    · rw [if_pos h1] at h
      have e : i.toNat = j := Option.some.inj h
      exact ⟨by rw [seqIndex_of h0 h1, e], by omega, by omega, h1⟩
    · rw [if_neg h1] at h; cases h
  · rw [if_neg h0] at h
    by_cases h1 : -(n : Int) ≤ i
    · rw [if_pos h1] at h
      have e : (i + n).toNat = j := Option.some.inj h
      exact ⟨by rw [seqIndex_neg (by omega) h1, e], by omega, h1, by omega⟩
    · rw [if_neg h1] at h; cases h
theorem atI_get {α : Type} {xs : List α} {i : Int} {v : α} (h : atI xs i = some v) : ∃ j, seqIndex? i xs.length = some j ∧ xs[j]? = some v ∧ j < xs.length ∧ -(xs.length : Int) ≤ i ∧ i < xs.length := by
  unfold atI at h
  cases e : ixN xs.length i with
  | none => rw [e] at h; cases h
  | some j =>
    rw [e] at h
    obtain ⟨h1, h2, h3, h4⟩ := ixN_seq e
    exact ⟨j, h1, h, h2, h3, h4⟩
theorem atI_last {α : Type} (xs : List α) (v : α) : atI (xs ++ [v]) (-1) = some v := by
  have hl : (xs ++ [v]).length = xs.length + 1 := by simp
  have e : ixN (xs ++ [v]).length (-1) = some xs.length := by
    unfold ixN
    rw [hl, if_neg (by decide), if_pos (by omega)]
    congr 1
    omega
  unfold atI
  rw [e]
  show (xs ++ [v])[xs.length]? = some v
  simp
/-! ### what may be subscripted -/
/-- what stands as an index of a plain subscript -/
def PlainIx (b : Expr) : Prop := ∀ o i, subscripted b false o i = operate [o, i] (getItem o i)
/-- a subscript by values -/
def IxR (X : Cx) (r : R2) : Prop :=
  ∀ (value slice : Expr) (pins : List (Addr × Obj)) (s : Shared) (σ : St) (H : Hp) (x y : V) (v u : Value) (Q : VK), Inv X pins σ H s → RelV x v → RelV y u → r x y H Q →
    subscripted slice false v u = operate [v, u] (getItem v u) → wpAny (model X.prog X.w) X.A (subscriptTail value slice v u) (EP X pins σ Q) X.xe s
/-- a call of a builtin's method by values: the receiver, the arguments -/
def MtR (X : Cx) (id : String) (r : V → List V → Hp → VK → Prop) : Prop :=
  ∀ (pins : List (Addr × Obj)) (s : Shared) (σ : St) (H : Hp) (x : V) (xs : List V) (v : Value) (us : List Value) (Q : VK), Inv X pins σ H s → RelV x v → Vals xs us → r x xs H Q →
    wpAny (model X.prog X.w) X.A (call (.builtin id) (v :: us)) (EP X pins σ Q) X.xe s
section
variable {X : Cx} {a b : Expr} {ta tb : TE} {pos : Pos}
/-- a[b] -/
theorem pe_ix {r : R2} (hr : IxR X r) (ha : PE X a ta) (hb : PE X b tb) (hs : PlainIx b) : PE X (.Subscript a b pos) (tOp r ta tb) := by
  intro pins s σ H Q I h
  exact Subscript_ (binT ha hb I h fun v u s2 x y H2 I2 rx ry q => hr a b pins s2 σ H2 x y v u Q I2 rx ry q (hs _ _))
def rIxL (K : PySem.W.Frag) : R2 := fun x y H Q => ∃ p xs i v, x = .ref p ∧ y = .int i ∧ SqL K H p xs ∧ atI xs i = some v ∧ Q v H
def rIxT (K : PySem.W.Frag) : R2 := fun x y H Q => ∃ p xs i v, x = .ref p ∧ y = .int i ∧ SqT K H p xs ∧ atI xs i = some v ∧ Q v H
theorem ix_list : IxR X (rIxL X.K) := by
  intro value slice pins s σ H x y v u Q I rx ry h hs
  obtain ⟨p, xs, i, z, rfl, rfl, hq, he, q⟩ := h
  cases rx
  obtain ⟨t, rfl⟩ := ry
  obtain ⟨its, r, pl, hz⟩ := I.list hq
  obtain ⟨j, h1, h2, h3, h4, h5⟩ := atI_get he
  obtain ⟨w, ew, rw'⟩ := r.get h2
  have hl := r.length
  have hn := line63
  have fin : EP X pins σ Q w s := ⟨z, H, I, rw', q⟩
  by_cases h0 : 0 ≤ i
  · have hj : i.toNat = j := by
      rw [seqIndex_of h0 h5] at h1
      exact Option.some.inj h1
    exact item_listR pl.isList h0 (by omega) (by rw [hj]; simpa using ew) fin hs
  · have hj : (i + (its.toArray.size : Int)).toNat = j := by
      rw [seqIndex_neg (by omega) h4] at h1
      rw [List.size_toArray, ← hl]
      exact Option.some.inj h1
    exact subscriptTail_builtinR (x := w) pl.isList.typeIs slot_list_getitem.lookup
      (wpAny_getItem_list_neg (Q := fun r s' => r = w ∧ EP X pins σ Q r s') pl.isList (by omega) (by rw [List.size_toArray] <;> omega) (by omega) (by rw [hj]; simpa using ew) ⟨rfl, fin⟩) hs
theorem ix_tup : IxR X (rIxT X.K) := by
  intro value slice pins s σ H x y v u Q I rx ry h hs
  obtain ⟨p, xs, i, z, rfl, rfl, hq, he, q⟩ := h
  cases rx
  obtain ⟨t, rfl⟩ := ry
  obtain ⟨its, r, pl, hz⟩ := I.tuple hq
  obtain ⟨j, h1, h2, h3, h4, h5⟩ := atI_get he
  obtain ⟨w, ew, rw'⟩ := r.get h2
  have hl := r.length
  have hn := line63
  have fin : EP X pins σ Q w s := ⟨z, H, I, rw', q⟩
  exact subscriptTail_builtinR (x := w) pl.typeIs slot_tuple_getitem.lookup
    (getItem_tuple (j := j) (Q := fun r s' => r = w ∧ EP X pins σ Q r s') pl (by omega) (by omega) (by rw [List.size_toArray, ← hl]; exact h1) (by simpa using ew) ⟨rfl, fin⟩) hs
/-! ### xs[i] = v, any sign -/
/-! ### slices -/
/-! ### in, not in: flat items -/
def flatV : V → Bool
  | .non => true
  | .bl _ => true
  | .int _ => true
  | .str _ => true
  | _ => false
/-- == of flat values -/
def eqV : V → V → Bool
  | .non, .non => true
  | .bl a, .bl b => a == b
  | .bl a, .int b => (if a then 1 else 0) == b
  | .int a, .bl b => a == (if b then 1 else 0)
  | .int a, .int b => a == b
  | .str a, .str b => a == b
  | _, _ => false
theorem eqAt_V {A : Around} {s : Shared} {y x : V} {u v : Value} (ry : RelV y u) (rx : RelV x v) (fy : flatV y = true) (fx : flatV x = true) : SeqAt.EqAt A s u v (eqV y x) := by
  cases y with
  | non =>
    cases ry
    cases x with
    | non => cases rx; exact SeqAt.EqAt.same _
    | bl b => cases rx; exact SeqAt.EqAt.none_bool b
    | int b => obtain ⟨t, rfl⟩ := rx; exact SeqAt.EqAt.none_int b t
    | str b => obtain ⟨t, rfl⟩ := rx; exact SeqAt.EqAt.none_str b t
    | _ => exact absurd (show false = true from fx) Bool.false_ne_true
  | bl a =>
    cases ry
    cases x with
    | non => cases rx; exact SeqAt.EqAt.bool_none a
    | bl b => cases rx; exact SeqAt.EqAt.bool_bool a b
    | int b => obtain ⟨t, rfl⟩ := rx; exact SeqAt.EqAt.bool_int a b t
    | str b => obtain ⟨t, rfl⟩ := rx; exact SeqAt.EqAt.bool_str a b t
    | _ => exact absurd (show false = true from fx) Bool.false_ne_true
  | int a =>
    obtain ⟨t', rfl⟩ := ry
    cases x with
    | non => cases rx; exact SeqAt.EqAt.int_none a t'
    | bl b => cases rx; exact SeqAt.EqAt.int_bool a t' b
    | int b => obtain ⟨t, rfl⟩ := rx; exact SeqAt.EqAt.int_int a t' b t
    | str b => obtain ⟨t, rfl⟩ := rx; exact SeqAt.EqAt.int_str a t' b t
    | _ => exact absurd (show false = true from fx) Bool.false_ne_true
  | str a =>
    obtain ⟨t', rfl⟩ := ry
    cases x with
    | non => cases rx; exact SeqAt.EqAt.str_none a t'
    | bl b => cases rx; exact SeqAt.EqAt.str_bool a t' b
    | int b => obtain ⟨t, rfl⟩ := rx; exact SeqAt.EqAt.str_int a t' b t
    | str b => obtain ⟨t, rfl⟩ := rx; exact SeqAt.EqAt.str_str a t' b t
    | _ => exact absurd (show false = true from fx) Bool.false_ne_true
  | _ => exact absurd (show false = true from fy) Bool.false_ne_true
/-- the items' answers, read off the values (a value's own answer does not lean on its token) -/
def eqU (x : V) (u : Value) : Bool := match u with
  | .none => eqV .non x
  | .bool b => eqV (.bl b) x
  | .int i _ => eqV (.int i) x
  | .str z _ => eqV (.str z) x
  | _ => false
theorem eqU_of {x y : V} {u : Value} (r : RelV y u) (f : flatV y = true) : eqU x u = eqV y x := by
  cases y with
  | non => cases r; rfl
  | bl b => cases r; rfl
  | int i => obtain ⟨t, rfl⟩ := r; rfl
  | str z => obtain ⟨t, rfl⟩ := r; rfl
  | _ => exact absurd (show false = true from f) Bool.false_ne_true
theorem any_eqU {x : V} : ∀ {xs : List V} {us : List Value}, Vals xs us → xs.all flatV = true → us.any (eqU x) = xs.any fun y => eqV y x
  | _, _, .nil, _ => rfl
  | y :: xs, u :: us, .cons r t, f => by
    rw [List.all_cons, Bool.and_eq_true] at f
    rw [List.any_cons, List.any_cons, eqU_of r f.1, any_eqU t f.2]
theorem mem_eqAt {A : Around} {s : Shared} {x : V} {v : Value} (rx : RelV x v) (fx : flatV x = true) : ∀ {xs : List V} {us : List Value}, Vals xs us → xs.all flatV = true → ∀ u ∈ us, SeqAt.EqAt A s u v (eqU x u)
  | _, _, .nil, _ => fun u hu => by cases hu
  | y :: xs, u :: us, .cons r t, f => fun u' hu => by
    rw [List.all_cons, Bool.and_eq_true] at f
    rcases List.mem_cons.mp hu with rfl | hu
    · rw [eqU_of r f.1]; exact eqAt_V r rx f.1 fx
    · exact mem_eqAt rx fx t f.2 u' hu
def inV (x : V) (xs : List V) : Bool := xs.any fun y => eqV y x
/-- x in a list or tuple of flat items -/
def rIn (K : PySem.W.Frag) (neg : Bool) : R2 := fun x y H Q => ∃ p xs, y = .ref p ∧ (SqL K H p xs ∨ SqT K H p xs) ∧ flatV x = true ∧ xs.all flatV = true ∧ Q (.bl (if neg then !inV x xs else inV x xs)) H
theorem op_in_seq : OpR X (compareOp .In) (rIn X.K false) := by
  intro pins s σ H x y v u Q I rx ry h
  obtain ⟨p, xs, rfl, hq, fx, fs, q⟩ := h
  cases ry
  rcases hq with hq | hq
  · obtain ⟨its, r, pl, hz⟩ := I.list hq
    refine SeqAt.in_listAt (eqU x) pl.isList (fun w hw => mem_eqAt rx fx r fs w (by simpa using hw)) ⟨.bl _, H, I, rfl, ?_⟩
    rw [show its.toArray.any (eqU x) = its.any (eqU x) by simp, any_eqU r fs]
    exact q
  · obtain ⟨its, r, pl, hz⟩ := I.tuple hq
    refine SeqAt.in_tupleAt (eqU x) pl (fun w hw => mem_eqAt rx fx r fs w (by simpa using hw)) ⟨.bl _, H, I, rfl, ?_⟩
    rw [show its.toArray.any (eqU x) = its.any (eqU x) by simp, any_eqU r fs]
    exact q
/-! ### len, list(x), tuple(x) of any list or tuple that is read -/
theorem call_len_seq : CallR X (.builtin "len") (fun xs H Q => ∃ p ys, xs = [.ref p] ∧ (SqL X.K H p ys ∨ SqT X.K H p ys) ∧ Q (.int ys.length) H) := by
  intro pins s σ H xs us Q I r h
  obtain ⟨p, ys, rfl, hq, q⟩ := h
  obtain ⟨u, rfl, rx⟩ := vals1 r
  cases rx
  have hn := line63
  rcases hq with hq | hq
  · obtain ⟨its, r', pl, hz⟩ := I.list hq
    have hlen := r'.length
    exact Calls.call_len_list pl.isList (by simp only [List.size_toArray] <;> omega) ⟨.int ys.length, H, I.tok _, ⟨s.toks + 1, by rw [List.size_toArray, hlen]⟩, q⟩
  · obtain ⟨its, r', pl, hz⟩ := I.tuple hq
    have hlen := r'.length
    exact len_tuple pl (by simp only [List.size_toArray] <;> omega) ⟨.int ys.length, H, I.tok _, ⟨s.toks + 1, by rw [List.size_toArray, hlen]⟩, q⟩
/-! ### the call of a builtin's method: o.m(..) -/
/-- the value is of that builtin type -/
def tyV (K : PySem.W.Frag) (T : String) (x : V) (H : Hp) : Prop := match x with
  | .str _ => T = "str"
  | .int _ => T = "int"
  | .ref p => (T = "list" ∧ ∃ xs, SqL K H p xs) ∨ (T = "tuple" ∧ ∃ o, K.lookup p = some o ∧ o.cls = .type "tuple" ∧ o.dict = none) ∨
      (T = "dict" ∧ ((∃ kvs, H p = some (.dK kvs)) ∨ ∃ kvs, H p = some (.dT kvs))) ∨ (T = "set" ∧ ∃ S n, H p = some (.set S n))
  | _ => False
theorem tyV_is {pins : List (Addr × Obj)} {σ : St} {H : Hp} {s : Shared} {T : String} {x : V} {v : Value} (I : Inv X pins σ H s) (r : RelV x v) (ty : tyV X.K T x H) :
    s.TypeIs v T ∧ ∀ a, v = .ref a → ∃ ob, s.heap.get? a = some ob ∧ ob.dict = none := by
  cases x with
  | str z =>
    obtain ⟨t, rfl⟩ := r
    cases (show T = "str" from ty)
    exact ⟨typeIs_str s z t, fun _ e => nomatch e⟩
  | int i =>
    obtain ⟨t, rfl⟩ := r
    cases (show T = "int" from ty)
    exact ⟨typeIs_int s i t, fun _ e => nomatch e⟩
  | ref p =>
    cases r
    rcases ty with ⟨rfl, xs, hq⟩ | ⟨rfl, o, hk, hc, hd⟩ | ⟨rfl, hk⟩ | ⟨rfl, S, n, hk⟩
    · obtain ⟨its, _, pl, _⟩ := I.list hq
      refine ⟨pl.isList.typeIs, fun a e => ?_⟩
      cases e
      obtain ⟨o, n, e, c, hd, _⟩ := pl
      exact ⟨o, e, hd⟩
    · refine ⟨⟨o, I.kIn p o hk, hc⟩, fun a e => ?_⟩
      cases e
      exact ⟨o, I.kIn _ o hk, hd⟩
    · have z : ∃ o, s.heap.get? p = some o ∧ o.ExactDict := by
        rcases hk with ⟨kvs, hk⟩ | ⟨kvs, hk⟩
        · obtain ⟨_, _, _, _, o, _, _, e, ex, _⟩ := I.hok p _ hk
          exact ⟨o, e, ex⟩
        · obtain ⟨_, _, _, _, o, _, _, e, ex, _⟩ := I.hok p _ hk
          exact ⟨o, e, ex⟩
      obtain ⟨o, e, ex⟩ := z
      refine ⟨⟨o, e, ex.1⟩, fun a e2 => ?_⟩
      cases e2
      exact ⟨o, e, ex.2.1⟩
    · obtain ⟨o, _, _, _, e, ex, _⟩ := I.hok p _ hk
      refine ⟨⟨o, e, ex.1⟩, fun a e2 => ?_⟩
      cases e2
      exact ⟨o, e, ex.2.1⟩
  | _ => exact False.elim ty
def tBM0 (K : PySem.W.Frag) (T : String) (r : V → List V → Hp → VK → Prop) (to : TE) : TE := fun σ H Q => to σ H fun x H1 => tyV K T x H1 ∧ r x [] H1 Q
def tBM (K : PySem.W.Frag) (T : String) (r : V → List V → Hp → VK → Prop) (to : TE) (t : TA) : TE := fun σ H Q => to σ H fun x H1 => tyV K T x H1 ∧ t σ H1 fun xs H2 => r x xs H2 Q
variable {o e : Expr} {es : List Expr} {to : TE} {t : TA} {name : Str} {apos cpos : Pos} {T id : String} {r : V → List V → Hp → VK → Prop}
theorem pe_bm0 (pa : PlainAttrs T) (slot : Slot T name id) (hty : typeOf (.builtin id) = pure (.type "method_descriptor")) (hm : MtR X id r) (ho : PE X o to)
    (hbase : attributeBase o name X.env (eval o X.env) = eval o X.env := by rfl) (hline : (apos.endLine == cpos.line) = true := by rfl) : PE X (.Call (.Attribute o name apos) [] [] cpos) (tBM0 X.K T r to) := by
  intro pins s σ H Q I h
  refine wpAny_Call_method0_late hbase hline (thn (ho pins s σ H _ I h) fun v s1 ⟨x, H1, I1, r1, ty, q1⟩ => ?_)
  obtain ⟨h1, h2⟩ := tyV_is I1 r1 ty
  exact ⟨T, id, pa, slot, hty, h1, h2, Calls.callWith_builtin rfl (PySem.evalArgs_none (hm pins s1 σ H1 x [] v [] Q I1 r1 .nil q1))⟩
theorem pe_bm (pa : PlainAttrs T) (slot : Slot T name id) (hty : typeOf (.builtin id) = pure (.type "method_descriptor")) (hm : MtR X id r) (ho : PE X o to) (ha : PA X (e :: es) t)
    (hbase : attributeBase o name X.env (eval o X.env) = eval o X.env := by rfl)
    (hfew : ((backTo cpos (starEach (e :: es) X.env)).all (fun x => !x.1) && (backToKw cpos (keywordEach [] X.env)).all (fun x => x.1.isSome)
      && decide ((e :: es).length + ([] : List Keyword).length + (if ([] : List Keyword).isEmpty then 0 else 1) < 30)) = true := by rfl)
    (hline : (apos.endLine == cpos.line) = true := by rfl) (hs : starEach (e :: es) X.env = (false, eval e X.env) :: starEach es X.env := by rfl) (hplain : (backTo cpos (starEach es X.env)).any (·.1) = false := by rfl) :
    PE X (.Call (.Attribute o name apos) (e :: es) [] cpos) (tBM X.K T r to t) := by
  intro pins s σ H Q I h
  refine wpAny_Call_method_late hbase hfew hline rfl (thn (ho pins s σ H _ I h) fun v s1 ⟨x, H1, I1, r1, ty, q1⟩ => ?_)
  obtain ⟨h1, h2⟩ := tyV_is I1 r1 ty
  refine ⟨T, id, pa, slot, hty, h1, h2, ?_⟩
  have hA := ha cpos pins s1 σ H1 _ I1 q1
  rw [hs] at hA ⊢
  refine Calls.callWith_builtin (by show (false || (backTo cpos (starEach es X.env)).any (·.1)) = false; rw [hplain] <;> rfl) (Calls.evalArgs_plain ?_)
  exact thn hA fun us s2 ⟨vs, H2, I2, r2, q2⟩ => hm pins s2 σ H2 x vs v us Q I2 r1 r2 q2
/- xs.append(e), list.index on a module's tuple .. are MtR facts of 06m -/
end
end L2
namespace L2
open PySem PySem.Spec PyProof.Rows
def MtM (X : Cx) (id : String) (r : V → List V → Hp → VK → Prop) : Prop :=
  ∀ (pins : List (Addr × Obj)) (s : Shared) (σ : St) (H : Hp) (x : V) (xs : List V) (v : Value) (us : List Value) (Q : VK), Inv X pins σ H s → RelV x v → Vals xs us → r x xs H Q →
    wpAny (model X.prog X.w) X.A (call (.builtin id) (v :: us)) (EP X pins σ Q) X.xe s
/-! ### lists of values -/
theorem Vals.one : ∀ {x : V} {us : List Value}, Vals [x] us → ∃ u, us = [u] ∧ RelV x u
  | _, _, .cons r .nil => ⟨_, rfl, r⟩
theorem Vals.zero : ∀ {us : List Value}, Vals [] us → us = []
  | _, .nil => rfl
theorem Vals.dropLast {xs : List V} {us : List Value} (h : Vals xs us) : Vals xs.dropLast us.dropLast := by
  induction h with
  | nil => exact .nil
  | cons r t ih =>
    cases t with
    | nil => exact .nil
    | cons q t' => exact .cons r ih
theorem erase_last {α : Type} (l : List α) : l.eraseIdx (l.length - 1) = l.dropLast := by
  induction l with
  | nil => rfl
  | cons a r ih =>
    cases r with
    | nil => rfl
    | cons b r =>
      have e : (a :: b :: r).length - 1 = ((b :: r).length - 1) + 1 := by
        have h1 : (a :: b :: r).length = r.length + 2 := rfl
        have h2 : (b :: r).length = r.length + 1 := rfl
        omega
      rw [e, List.eraseIdx_cons_succ, ih]
      all_goals rfl
section
variable {X : Cx} {pins : List (Addr × Obj)} {σ : St} {H : Hp} {s : Shared} {l b : Addr} {xs ys zs : List V}
/-! ### the two steps: a tracked list is rewritten, a new list is laid -/
theorem Inv.lset {its its' : List Value} {n : Nat} {f : Array Value → Array Value} {t' : Nat} (I : Inv X pins σ H s) (hH : H l = some (.lst xs))
    (e : s.heap.get? l = some { cls := .type "list", data := .seq its.toArray n }) (hf : f its.toArray = its'.toArray) (hv : Vals ys its') (hz : ys.length ≤ sizeLine) :
    Inv X pins σ (upd H l (.lst ys)) { s with heap := s.heap.update l (Obj.mapSeq f), toks := t' } := by
  have q := PySem.IsL.update e f
  rw [hf] at q
  refine I.write (x := l) (e := l) (by rw [hH]; exact trivial) (.inl rfl) (fun b' u hb hu => (Heap.get?_update_other s.heap (Obj.mapSeq f) (Ne.symm hb)).trans hu) ⟨_, q⟩ ?_
  exact ⟨hz, its', _, hv, q⟩
theorem Inv.lstM (I : Inv X pins σ H s) (hH : H l = some (.lst xs)) : xs.length ≤ sizeLine ∧ ∃ (its : List Value) (n : Nat), Vals xs its ∧ xs.length = its.length ∧ s.heap.get? l = some { cls := .type "list", data := .seq its.toArray n } := by
  obtain ⟨z, its, n, r, e⟩ := I.hok l _ hH
  exact ⟨z, its, n, r, r.length, e⟩
theorem notLongL {n : Nat} (h : n ≤ sizeLine) : Builtin.List.listTooLong n = false := by
  unfold Builtin.List.listTooLong
  exact decide_eq_false (by omega)
end
section
variable {X : Cx}
/-! ### methods -/
def rAppend : V → List V → Hp → VK → Prop := fun x vs H Q => ∃ l xs y, x = .ref l ∧ vs = [y] ∧ H l = some (.lst xs) ∧ xs.length < sizeLine ∧ Q .non (upd H l (.lst (xs ++ [y])))
theorem mt_append : MtM X "list.append" rAppend := by
  intro pins s σ H x vs v us Q I rx rv h
  obtain ⟨l, xs, y, rfl, rfl, hH, hz, q⟩ := h
  cases rx
  obtain ⟨u, rfl, ru⟩ := rv.one
  obtain ⟨z, its, n, r, hl, e⟩ := I.lstM hH
  refine call_meets F.slot_list_append ⟨_, e, rfl⟩ F.entry_list_append (F.args_list_append_2 _ _) (PySem.list_append l its.toArray n u (by rw [List.size_toArray]; omega)) ⟨e, ?_⟩
  refine ⟨.non, _, I.lset (its' := its ++ [u]) hH e (by simp) (r.append (.cons ru .nil)) ?_, rfl, q⟩
  rw [List.length_append, List.length_singleton]
  omega
def rExtend : V → List V → Hp → VK → Prop := fun x vs H Q => ∃ l b xs zs, x = .ref l ∧ vs = [.ref b] ∧ H l = some (.lst xs) ∧ H b = some (.lst zs) ∧ xs.length + zs.length ≤ sizeLine ∧ Q .non (upd H l (.lst (xs ++ zs)))
theorem mt_extend : MtM X "list.extend" rExtend := by
  intro pins s σ H x vs v us Q I rx rv h
  obtain ⟨l, b, xs, zs, rfl, rfl, hH, hB, hz, q⟩ := h
  cases rx
  obtain ⟨u, rfl, ru⟩ := rv.one
  cases ru
  obtain ⟨z, its, n, r, hl, e⟩ := I.lstM hH
  obtain ⟨z2, its2, n2, r2, hl2, e2⟩ := I.lstM hB
  have hsz : its.toArray.size + its2.toArray.size ≤ sizeLine := by rw [List.size_toArray, List.size_toArray]; omega
  have hlong : ¬ (!its.toArray.isEmpty && Builtin.List.listTooLong (its.toArray.size + its2.toArray.size)) = true := by
    rw [notLongL hsz, Bool.and_false]
    exact Bool.false_ne_true
  refine call_meets F.slot_list_extend ⟨_, e, rfl⟩ F.entry_list_extend (F.args_list_extend_2 _ _)
    (AutoSeq1.list_extend_list_list_0 l its.toArray n b its2.toArray n2 hlong (by rw [List.size_toArray]; omega) (by omega)) ⟨e, e2, ?_⟩
  refine ⟨.non, _, I.lset (its' := its ++ its2) hH e (by simp) (r.append r2) ?_, rfl, q⟩
  rw [List.length_append]
  omega
def rPop : V → List V → Hp → VK → Prop := fun x vs H Q => ∃ l xs y, x = .ref l ∧ vs = [] ∧ H l = some (.lst xs) ∧ xs[xs.length - 1]? = some y ∧ Q y (upd H l (.lst xs.dropLast))
theorem mt_pop : MtM X "list.pop" rPop := by
  intro pins s σ H x vs v us Q I rx rv h
  obtain ⟨l, xs, y, rfl, rfl, hH, hy, q⟩ := h
  cases rx
  have hus := rv.zero
  subst hus
  obtain ⟨z, its, n, r, hl, e⟩ := I.lstM hH
  obtain ⟨u, hu, ru⟩ := r.get hy
  have hy' : its.toArray[its.toArray.size - 1]? = some u := by
    show its.toArray[its.length - 1]? = some u
    rw [← Array.getElem?_toList, ← hl]
    exact hu
  refine call_meets F.slot_list_pop ⟨_, e, rfl⟩ F.entry_list_pop (F.args_list_pop_1 _) (MeetsSeq.list_pop_last l its.toArray n u hy' (by rw [List.size_toArray]; omega)) ⟨e, ?_⟩
  refine ⟨y, _, I.lset (its' := its.dropLast) hH e ?_ r.dropLast ?_, ru, q⟩
  · show its.toArray.eraseIdxIfInBounds (its.toArray.size - 1) = its.dropLast.toArray
    rw [List.size_toArray, List.eraseIdxIfInBounds_toArray, erase_last]
  · rw [List.length_dropLast]
    omega
/-! ### list + list, list += list, list * int -/
/-! ### del xs[i] -/
end
/-! ### xs[a:b] = ys -/
section
variable {prog : Program} {w : World} {A : Around} {E : Value → Shared → Prop} {s : Shared}
end
section
variable {X : Cx}
end
end L2
namespace L2
open PySem PySem.Spec PyProof.Rows
theorem Vals.bls : ∀ {bs : List Bool} {us : List Value}, Vals (bs.map V.bl) us → us = bs.map Value.bool
  | [], us, h => by
    rw [List.map_nil] at h
    cases h
    rfl
  | b :: bs, us, h => by
    rw [List.map_cons] at h
    cases h with
    | cons r t =>
      cases r
      rw [Vals.bls t, List.map_cons]
theorem Vals.ref1 {a : Addr} {us : List Value} (r : Vals [V.ref a] us) : us = [Value.ref a] := by
  cases r with
  | cons r t =>
    cases t
    cases r
    rfl
/-! ### the library's walks over a list of ints, kept objects alone -/
section
variable {prog : Program} {w : World} {A : Around} {E : Value → Shared → Prop} {s : Shared} {l : Addr} {its : List Value} {ns : List Int} {Q : Value → Shared → Prop}
end
/-! ### the calls, by values (CallR of 03t; MtR of 06l) -/
section
variable {X : Cx}
/-! sorted, sort (fewer than 64 items: the library's own bound) -/
end
/-! ### list.index, flat items -/
section
variable {X : Cx}
def rIndex (K : PySem.W.Frag) : V → List V → Hp → VK → Prop := fun x xs H Q => ∃ (a : Addr) (ys : List V) (y : V) (j : Nat) (z : V), x = V.ref a ∧ xs = [y] ∧ SqL K H a ys ∧ flatV y = true ∧ ys.all flatV = true ∧ ys[j]? = some z ∧ eqV z y = true ∧
  (∀ (m : Nat) (z' : V), m < j → ys[m]? = some z' → eqV z' y = false) ∧ Q (.int (j : Nat)) H
theorem flat_at {ys : List V} (f : ys.all flatV = true) {j : Nat} {z : V} (h : ys[j]? = some z) : flatV z = true := List.all_eq_true.mp f z (List.mem_of_getElem? h)
theorem mt_index : MtR X "list.index" (rIndex X.K) := by
  intro pins s σ H x xs v us Q I rx rxs h
  obtain ⟨a, ys, y, j, z, rfl, rfl, hs, fy, fys, hz, hzj, hno, q⟩ := h
  cases rx
  cases rxs with
  | cons ry rt =>
    rename_i uy ut
    cases rt
    obtain ⟨its, rv, ⟨⟨cls, dd, data, sl⟩, n, ho, hc, hdn, hd⟩, hlen⟩ := I.list hs
    simp only at hc hd
    subst hc hd
    obtain ⟨u, hu, ru⟩ := rv.get hz
    obtain ⟨hjl, hje⟩ := List.getElem?_eq_some_iff.mp hu
    have hvl := rv.length
    have hj : j < its.toArray.size := by simpa using hjl
    have hsl := sizeLine_eq
    refine call_meets PySem.F.slot_list_index ⟨_, ho, rfl⟩ PySem.F.entry_list_index (PySem.F.args_list_index_2 _ _)
      (SeqAt.list_indexAt a its.toArray n dd sl uy (eqU y) j hj (by omega) ?_ ?_) ⟨ho, fun u' hu' => mem_eqAt ry fy rv fys u' (by simpa using hu'), ?_⟩
    · have e1 : its.toArray[j] = u := by simpa using hje
      rw [e1, eqU_of ru (flat_at fys hz)]
      exact hzj
    · intro m hm hmj
      have hml : m < its.length := by simpa using hm
      have hmy : m < ys.length := by omega
      have hy' : ys[m]? = some ys[m] := List.getElem?_eq_getElem hmy
      obtain ⟨u2, hu2, ru2⟩ := rv.get hy'
      obtain ⟨_, hme⟩ := List.getElem?_eq_some_iff.mp hu2
      have e1 : its.toArray[m] = u2 := by simpa using hme
      rw [e1, eqU_of ru2 (flat_at fys hy')]
      exact hno m _ hmj hy'
    · exact ⟨.int (j : Nat), H, I.tok _, ⟨_, rfl⟩, q⟩
end
/-! ### type(x) of an own instance; is, is not of a module's class -/
section
variable {X : Cx}
end
/-! ### any(xs), all(xs) of a list of bools -/
theorem iter_any {prog : Program} {w : World} {A : Around} {E : Value → Shared → Prop} {s : Shared} {l : Addr} {items : Array Value} {Q : Value → Shared → Prop} (hl : s.heap.IsList l items)
    (h : ∀ s₂ : Shared, s₂ = { s with heap := s.heap.push { cls := .type "list_iterator", data := .fields #[.ref l, .int 0 0] } } →
      (s₂.heap.IsListIter s.heap.objs.size l 0 ∧ s₂.heap.IsList l items) → l ≠ s.heap.objs.size → Q (.ref s.heap.objs.size) s₂) : wpAny (model prog w) A (pyIter (.ref l)) Q E s := by
  have hlt : l < s.heap.objs.size := by obtain ⟨_, e, _⟩ := hl; exact Heap.lt_size e
  exact wpAny_pyIter_list hl (h _ rfl ⟨⟨_, Heap.get?_push_size _ rfl, rfl, rfl⟩, hl.push _⟩ (Nat.ne_of_lt hlt))
theorem truth_bools {prog : Program} {w : World} {A : Around} {bs : List Bool} {its : List Value} (e : its = bs.map Value.bool) :
    TruthOf prog w A (fun i v => its.toArray[i]? = some v) (fun i => bs.getD i false) := fun i v s Q E hv hq => by
  have hv' : its[i]? = some v := by simpa using hv
  rw [e, List.getElem?_map] at hv'
  obtain ⟨b, hb, rfl⟩ := Option.map_eq_some_iff.mp hv'
  have hg : bs.getD i false = b := by rw [List.getD_eq_getElem?_getD, hb] <;> rfl
  have hq' : Q (bs.getD i false) s := hq
  rw [hg] at hq'
  exact wpAny_truthy_bool hq'
theorem any_range : ∀ bs : List Bool, (List.range bs.length).any (fun i => bs.getD i false) = bs.any id
  | [] => rfl
  | b :: bs => by
    rw [List.length_cons, List.range_succ_eq_map, List.any_cons, List.any_map, List.any_cons, ← any_range bs]
    all_goals rfl
theorem all_range : ∀ bs : List Bool, (List.range bs.length).all (fun i => bs.getD i false) = bs.all id
  | [] => rfl
  | b :: bs => by
    rw [List.length_cons, List.range_succ_eq_map, List.all_cons, List.all_map, List.all_cons, ← all_range bs]
    all_goals rfl
section
variable {X : Cx}
def rAll (K : PySem.W.Frag) : List V → Hp → VK → Prop := fun vs H Q => ∃ (a : Addr) (bs : List Bool), vs = [V.ref a] ∧ SqL K H a (bs.map V.bl) ∧ Q (.bl (bs.all id)) H
theorem cr_all (hc : X.calm = true) : CallR X (.builtin "all") (rAll X.K) := by
  intro pins s σ H vs us Q I r h
  obtain ⟨a, bs, rfl, hs, q⟩ := h
  obtain ⟨its, rv, hl, _⟩ := I.list hs
  rw [Vals.ref1 r]
  have hb := rv.bls
  refine call_all_walk (iter_any hl.isList fun s₂ e2 st hne => ?_)
  subst e2
  refine ⟨_, _, _, _, _, _, _, rfl, Walks.list (A := X.A.in1) (I.ok.hd hc) _ a hne its.toArray, st, truth_bools hb, fun h' tk hk => ?_⟩
  refine ⟨.bl _, H, I.kept fun b o eo => hk b o (fun hmem => ?_) (Heap.get?_push_of_some _ eo), ?_, q⟩
  · rcases List.mem_cons.mp hmem with e1 | hmem
    · exact absurd (e1 ▸ Heap.lt_size eo) (Nat.lt_irrefl _)
    · cases hmem
  · show Value.bool _ = Value.bool _
    rw [← all_range, hb, List.size_toArray, List.length_map]
end
/-! ### == and != of data at any depth: none, bools, ints, texts, lists, tuples -/
mutual
inductive Dp (K : PySem.W.Frag) (H : Hp) : V → PyData → Prop
  | non : Dp K H .non .none
  | bl (b : Bool) : Dp K H (.bl b) (.bool b)
  | int (i : Int) : Dp K H (.int i) (.int i)
  | str (x : Str) : Dp K H (.str x) (.str x)
  | lst {a : Addr} {xs : List V} {ds : List PyData} : SqL K H a xs → DpAll K H xs ds → Dp K H (.ref a) (.list ds)
  | tup {a : Addr} {xs : List V} {ds : List PyData} : SqT K H a xs → DpAll K H xs ds → Dp K H (.ref a) (.tuple ds)
inductive DpAll (K : PySem.W.Frag) (H : Hp) : List V → List PyData → Prop
  | nil : DpAll K H [] []
  | cons {v : V} {vs : List V} {d : PyData} {ds : List PyData} : Dp K H v d → DpAll K H vs ds → DpAll K H (v :: vs) (d :: ds)
end
section
variable {X : Cx} {pins : List (Addr × Obj)} {σ : St} {H : Hp} {s : Shared}
mutual
theorem Dp.reads (I : Inv X pins σ H s) : ∀ (d : PyData) (v : V) (u : Value), Dp X.K H v d → RelV v u → ∃ as, Reads s.heap u d as
  | .none, _, _, h, r => by
    cases h
    cases r
    exact ⟨_, Reads.none⟩
  | .bool b, _, _, h, r => by
    cases h
    cases r
    exact ⟨_, Reads.bool b⟩
  | .int i, _, _, h, r => by
    cases h
    obtain ⟨t, rfl⟩ := r
    exact ⟨_, Reads.int i t⟩
  | .str x, _, _, h, r => by
    cases h
    obtain ⟨t, rfl⟩ := r
    exact ⟨_, Reads.str x t⟩
  | .list ds, _, _, h, r => by
    cases h with
    | lst hs ha =>
      cases r
      obtain ⟨its, rv, ⟨o, n, ho, hc, _, hd⟩, _⟩ := I.list hs
      obtain ⟨as, hr⟩ := Dp.readsAll I ds _ its ha rv
      exact ⟨_, Reads.list ho hc hd hr⟩
  | .tuple ds, _, _, h, r => by
    cases h with
    | tup hs ha =>
      cases r
      obtain ⟨its, rv, ⟨o, ho, hc, n, hd⟩, _⟩ := I.tuple hs
      obtain ⟨as, hr⟩ := Dp.readsAll I ds _ its ha rv
      exact ⟨_, Reads.tuple ho hc hd hr⟩
  | .dict _, _, _, h, _ => by cases h
theorem Dp.readsAll (I : Inv X pins σ H s) : ∀ (ds : List PyData) (vs : List V) (us : List Value), DpAll X.K H vs ds → Vals vs us → ∃ as, ReadsAll s.heap us ds as
  | [], _, _, h, r => by
    cases h
    cases r
    exact ⟨_, ReadsAll.nil⟩
  | d :: ds, _, _, h, r => by
    cases h with
    | cons h1 h2 =>
      cases r with
      | cons r1 r2 =>
        obtain ⟨as, q1⟩ := Dp.reads I d _ _ h1 r1
        obtain ⟨bs, q2⟩ := Dp.readsAll I ds _ _ h2 r2
        exact ⟨_, ReadsAll.cons q1 q2⟩
end
end
section
variable {X : Cx}
def rEqD (K : PySem.W.Frag) : R2 := fun x y H Q => ∃ d e, Dp K H x d ∧ Dp K H y e ∧ SeqAt.shaped d = true ∧ SeqAt.shaped e = true ∧ Q (.bl (PyData.eqv d e)) H
def rNeD (K : PySem.W.Frag) : R2 := fun x y H Q => ∃ d e, Dp K H x d ∧ Dp K H y e ∧ SeqAt.shaped d = true ∧ SeqAt.shaped e = true ∧ Q (.bl (!PyData.eqv d e)) H
theorem op_eqD (hu : X.A.units + 64 < cLine) : OpR X (compareOp .Eq) (rEqD X.K) := by
  intro pins s σ H x y v u Q I rx ry h
  obtain ⟨d, e, hd, he, sd, se, q⟩ := h
  obtain ⟨as, r1⟩ := Dp.reads I d x v hd rx
  obtain ⟨bs, r2⟩ := Dp.reads I e y u he ry
  exact SeqAt.compareEq_shaped r1 r2 sd se hu ⟨.bl _, H, I, rfl, q⟩
theorem op_neD (hu : X.A.units + 64 < cLine) : OpR X (compareOp .NotEq) (rNeD X.K) := by
  intro pins s σ H x y v u Q I rx ry h
  obtain ⟨d, e, hd, he, sd, se, q⟩ := h
  obtain ⟨as, r1⟩ := Dp.reads I d x v hd rx
  obtain ⟨bs, r2⟩ := Dp.reads I e y u he ry
  exact SeqAt.compareNe_shaped r1 r2 sd se hu ⟨.bl _, H, I, rfl, q⟩
end
end L2
namespace L2
open PySem PySem.Spec PyProof.Rows
abbrev CellAt (h : Heap) (c : Addr) (v : Option Value) : Prop := h.IsCell c v
def relS (scope sc : Scope) : Scope :=
  { scope with names := scope.names.map fun (n, k) => if (k == .free && sc.kind == .function && sc.names.lookup n == some .cell) then (n, .cell) else (n, k) }
def cloFrom (cells : List (Str × Addr)) : List (Str × NameKind) → List (Str × Addr) → List (Str × Addr)
  | [], acc => acc
  | (n, k) :: r, acc => if k == .free then cloFrom cells r ((n, (cells.lookup n).getD 0) :: acc) else cloFrom cells r acc
theorem closure_loop (env : Env) (f : Str × NameKind → List (Str × Addr) → Sem (ForInStep (List (Str × Addr))))
    (hf : ∀ n k c, f (n, k) c = if k == .free then (do let a ← cellOf env n; pure (.yield ((n, a) :: c))) else pure (.yield c)) :
    ∀ (names : List (Str × NameKind)) (acc : List (Str × Addr)), (∀ y ∈ names, y.2 = .free → ∃ c, env.cells.lookup y.1 = some c) → forIn names acc f = pure (cloFrom env.cells names acc)
  | [], acc, _ => by rw [List.forIn_nil]; rfl
  | (n, k) :: r, acc, h => by
    rw [List.forIn_cons, hf]
    have ih := fun acc => closure_loop env f hf r acc fun y hy => h y (List.mem_cons_of_mem _ hy)
    unfold cloFrom
    by_cases hk : (k == NameKind.free) = true
    · rw [if_pos hk, if_pos hk]
      obtain ⟨c, hc⟩ := h (n, k) List.mem_cons_self (by simpa using hk)
      have e : cellOf env n = pure c := by unfold cellOf; rw [hc]
      rw [e]
      have e2 : (env.cells.lookup n).getD 0 = c := by rw [hc]; rfl
      rw [e2]
      exact ih _
    · rw [if_neg hk, if_neg hk]
      exact ih _
theorem closure_ok {scope : Scope} {env : Env} (h : ∀ y ∈ scope.names, y.2 = .free → ∃ c, env.cells.lookup y.1 = some c) : closureFor scope env = pure (cloFrom env.cells scope.names []) := by
  simp only [closureFor]
  rw [closure_loop env _ (fun n k c => rfl) scope.names [] h]
  rfl
theorem mem_lookup {α : Type} : ∀ {l : List (Str × α)} {n : Str} {c : α}, (n, c) ∈ l → ∃ c', l.lookup n = some c'
  | (k, v) :: r, n, c, h => by
    rw [List.lookup_cons]
    cases hb : n == k with
    | true => exact ⟨_, rfl⟩
    | false =>
      rcases List.mem_cons.mp h with e | h
      · cases e; simp at hb
      · exact mem_lookup h
theorem cloFrom_mem {cells : List (Str × Addr)} : ∀ {names : List (Str × NameKind)} {acc : List (Str × Addr)} {n : Str} {c : Addr}, (n, c) ∈ cloFrom cells names acc → (n, c) ∈ acc ∨ ((n, .free) ∈ names ∧ c = (cells.lookup n).getD 0)
  | [], _, _, _, h => .inl h
  | (m, k) :: r, acc, n, c, h => by
    unfold cloFrom at h
    split at h
    · rename_i hk
      have hk : k = .free := by simpa using hk
      rcases cloFrom_mem h with h | ⟨h1, h2⟩
      · rcases List.mem_cons.mp h with e | h
        · cases e; exact .inr ⟨hk ▸ List.mem_cons_self, rfl⟩
        · exact .inl h
      · exact .inr ⟨List.mem_cons_of_mem _ h1, h2⟩
    · rcases cloFrom_mem h with h | ⟨h1, h2⟩
      · exact .inl h
      · exact .inr ⟨List.mem_cons_of_mem _ h1, h2⟩
theorem cloFrom_acc {cells : List (Str × Addr)} : ∀ {names : List (Str × NameKind)} {acc : List (Str × Addr)} {p : Str × Addr}, p ∈ acc → p ∈ cloFrom cells names acc
  | [], _, _, h => h
  | (m, k) :: r, acc, p, h => by
    unfold cloFrom
    split
    · exact cloFrom_acc (List.mem_cons_of_mem _ h)
    · exact cloFrom_acc h
theorem cloFrom_has {cells : List (Str × Addr)} : ∀ {names : List (Str × NameKind)} {acc : List (Str × Addr)} {n : Str}, (n, .free) ∈ names → (n, (cells.lookup n).getD 0) ∈ cloFrom cells names acc
  | (m, k) :: r, acc, n, h => by
    unfold cloFrom
    rcases List.mem_cons.mp h with e | h
    · cases e
      exact cloFrom_acc List.mem_cons_self
    · split
      · exact cloFrom_has h
      · exact cloFrom_has h
theorem cells_mem : ∀ {names : List (Str × NameKind)} {h : Heap} {acc : List (Str × Addr)} {x : Str} {c : Addr}, (x, c) ∈ cellsFrom h.objs.size names acc →
    (x, c) ∈ acc ∨ ((x, .cell) ∈ names ∧ h.objs.size ≤ c ∧ CellAt (pushCells h names) c none)
  | [], _, _, _, _, h => .inl h
  | (n, k) :: r, h, acc, x, c, hm => by
    unfold cellsFrom at hm
    unfold pushCells
    split at hm
    · rename_i hk
      rw [if_pos hk]
      have hk : k = .cell := by simpa using hk
      rw [← Heap.size_push h { cls := .type "cell", data := .cell none }] at hm
      rcases cells_mem hm with hm | ⟨h1, h2, h3⟩
      · rcases List.mem_cons.mp hm with e | hm
        · cases e
          exact .inr ⟨hk ▸ List.mem_cons_self, Nat.le_refl _, _, pushCells_keeps r _ _ _ (Heap.get?_push_size _ rfl), rfl⟩
        · exact .inl hm
      · rw [Heap.size_push] at h2
        exact .inr ⟨List.mem_cons_of_mem _ h1, Nat.le_of_succ_le h2, h3⟩
    · rename_i hk
      rw [if_neg hk]
      rcases cells_mem hm with hm | ⟨h1, h2, h3⟩
      · exact .inl hm
      · exact .inr ⟨List.mem_cons_of_mem _ h1, h2, h3⟩
theorem cells_acc : ∀ {names : List (Str × NameKind)} {n : Nat} {acc : List (Str × Addr)} {p : Str × Addr}, p ∈ acc → p ∈ cellsFrom n names acc
  | [], _, _, _, h => h
  | (m, k) :: r, n, acc, p, h => by
    unfold cellsFrom
    split
    · exact cells_acc (List.mem_cons_of_mem _ h)
    · exact cells_acc h
theorem cells_has : ∀ {names : List (Str × NameKind)} {n : Nat} {acc : List (Str × Addr)} {x : Str}, (x, .cell) ∈ names → ∃ c, (x, c) ∈ cellsFrom n names acc
  | (m, k) :: r, n, acc, x, h => by
    unfold cellsFrom
    rcases List.mem_cons.mp h with e | h
    · cases e
      exact ⟨n, cells_acc List.mem_cons_self⟩
    · split
      · exact cells_has h
      · exact cells_has h
theorem cells_inj : ∀ {names : List (Str × NameKind)} {h : Heap} {acc : List (Str × Addr)} {x y : Str} {c : Addr}, (∀ p ∈ acc, p.2 < h.objs.size) → (∀ x y c, (x, c) ∈ acc → (y, c) ∈ acc → x = y) →
    (x, c) ∈ cellsFrom h.objs.size names acc → (y, c) ∈ cellsFrom h.objs.size names acc → x = y
  | [], _, _, _, _, _, _, hi, h1, h2 => hi _ _ _ h1 h2
  | (n, k) :: r, h, acc, x, y, c, hl, hi, h1, h2 => by
    unfold cellsFrom at h1 h2
    split at h1
    · rename_i hk
      rw [if_pos hk] at h2
      rw [← Heap.size_push h { cls := .type "cell", data := .cell none }] at h1 h2
      refine cells_inj (h := h.push _) (fun p hp => ?_) (fun x y c a b => ?_) h1 h2
      · rw [Heap.size_push]
        rcases List.mem_cons.mp hp with rfl | hp
        · exact Nat.lt_succ_self _
        · exact Nat.lt_succ_of_lt (hl p hp)
      · rcases List.mem_cons.mp a with e | a <;> rcases List.mem_cons.mp b with e' | b
        · cases e; cases e'; rfl
        · cases e; exact absurd (hl _ b) (Nat.lt_irrefl _)
        · cases e'; exact absurd (hl _ a) (Nat.lt_irrefl _)
        · exact hi _ _ _ a b
    · rename_i hk
      rw [if_neg hk] at h2
      exact cells_inj hl hi h1 h2
theorem newEnv_comp {M : Model} {A : Around} {E : Value → Shared → Prop} {s : Shared} {scope : Scope} {globals : Addr} {closure : List (Str × Addr)} {qual : Str} {func : Option Addr} {code : Value} {around : Env} {builtins : Addr} {Q : Env → Shared → Prop}
    (h : Q (newEnv scope s.heap.objs.size globals (cellsFrom (s.heap.objs.size + 1) scope.names closure) qual func code (some around) builtins)
      { s with heap := pushCells (s.heap.push { cls := .type "dict", data := .dict #[] }) scope.names }) :
    wpAny M A (newFunctionEnv scope globals closure [] qual func code (some around) builtins) Q E s := by
  simp only [newFunctionEnv, Option.isSome_some, if_true]
  refine wpAny_bind (wpAny_alloc ?_)
  refine wpAny_bind (wpAny_layCells _ (fun n k c => rfl) scope.names closure _ _ ?_)
  rw [show ({ s with heap := s.heap.push { cls := .type "dict", data := .dict #[] } } : Shared).heap.objs.size = s.heap.objs.size + 1 from Heap.size_push ..]
  rw [List.forIn_nil]
  exact wpAny_bind (wpAny_pure (wpAny_pure h))
/-- every name of the written scope, in the scope that runs -/
theorem lookup_relS {sc : Scope} : ∀ {names : List (Str × NameKind)} {x : Str} {k : NameKind},
    (names.map fun (n, k) => if (k == NameKind.free && sc.kind == .function && sc.names.lookup n == some .cell) then (n, NameKind.cell) else (n, k)).lookup x = some k →
    ∃ k', names.lookup x = some k' ∧ (k = k' ∨ (k' = .free ∧ k = .cell))
  | [], _, _, h => by simp at h
  | (n, k₀) :: r, x, k, h => by
    have ih := @lookup_relS sc r x k
    have h' : List.lookup x ((if (k₀ == NameKind.free && sc.kind == .function && sc.names.lookup n == some .cell) = true then (n, NameKind.cell) else (n, k₀)) :: (r.map _)) = some k := h
    cases hx : x == n with
    | true =>
      simp only [List.lookup_cons, hx]
      by_cases hc : (k₀ == NameKind.free && sc.kind == .function && sc.names.lookup n == some .cell) = true
      · rw [if_pos hc] at h'
        simp only [List.lookup_cons, hx] at h'
        cases h'
        simp only [Bool.and_eq_true, beq_iff_eq] at hc
        exact ⟨k₀, rfl, .inr ⟨hc.1.1, rfl⟩⟩
      · rw [if_neg hc] at h'
        simp only [List.lookup_cons, hx] at h'
        cases h'
        exact ⟨_, rfl, .inl rfl⟩
    | false =>
      simp only [List.lookup_cons, hx]
      by_cases hc : (k₀ == NameKind.free && sc.kind == .function && sc.names.lookup n == some .cell) = true
      · rw [if_pos hc] at h'
        simp only [List.lookup_cons, hx] at h'
        exact ih h'
      · rw [if_neg hc] at h'
        simp only [List.lookup_cons, hx] at h'
        exact ih h'
/-- the names of a comprehension's block: its own (with their places in N), or captured -/
structure BlkOk (N : List Str) (sc scope : Scope) (own : List (Str × Nat)) : Prop where
  kind : scope.kind = .function
  uniq : ∀ y ∈ scope.names, scope.names.lookup y.1 = some y.2
  ix : ∀ p ∈ own, N[p.2]? = some p.1
  free : ∀ y ∈ scope.names, y.2 = .free → sc.names.lookup y.1 = some .cell ∨ sc.names.lookup y.1 = some .free
  own : ∀ y ∈ scope.names, y.2 = .local ∨ y.2 = .cell → y.1 ∈ own.map (·.1) ∨ y.1 ∉ N
/-- the slots of the block's own names forgotten -/
def wipe (σ : St) : List Nat → St
  | [] => σ
  | v :: vs => (wipe σ vs).set v none
theorem wipe_length (σ : St) : ∀ vs : List Nat, (wipe σ vs).length = σ.length
  | [] => rfl
  | v :: vs => by unfold wipe; rw [List.length_set, wipe_length σ vs]
theorem wipe_some {σ : St} {i : Nat} {x : V} : ∀ {vs : List Nat}, (wipe σ vs)[i]? = some (some x) → σ[i]? = some (some x) ∧ i ∉ vs
  | [], h => ⟨h, by simp⟩
  | v :: vs, h => by
    unfold wipe at h
    by_cases hi : v = i
    · subst hi
      by_cases hv : v < (wipe σ vs).length
      · rw [List.getElem?_set_self hv] at h; cases h
      · rw [List.getElem?_eq_none (by simpa using hv)] at h; cases h
    · rw [List.getElem?_set_ne hi] at h
      obtain ⟨h1, h2⟩ := wipe_some h
      exact ⟨h1, by simp only [List.mem_cons, not_or]; exact ⟨fun e => hi e.symm, h2⟩⟩
/-- the context of a block that starts at s, its iterator's objects at fp -/
abbrev Cx.blk (X : Cx) (s : Shared) (H : Hp) (scope : Scope) (cenv : Env) (fp : List Addr) : Cx := { X with s_0 := s, H_0 := H, env := cenv, outer := X.stack, ex := fp, fn := fun x => scope.names.lookup x == some .cell, pn := [], xe := fun _ _ => False }
section
variable {X : Cx} {pins : List (Addr × Obj)} {σ : St} {H : Hp} {s : Shared}
theorem block_start {scope : Scope} {own : List (Str × Nat)} {fp : List Addr} (I : Inv X pins σ H s) (ok : BlkOk X.N X.env.scope scope own) (hN : X.N.Nodup) (hfp : ∀ b ∈ fp, FpOk X pins H b ∧ b < s.heap.objs.size) :
    Inv (X.blk s H scope (compEnvC scope (cellsFrom (s.heap.objs.size + 1) scope.names (cloFrom X.env.cells scope.names [])) s.heap.objs.size X.env) fp) [] (wipe σ (own.map (·.2))) H { s with heap := pushCells (s.heap.push { cls := .type "dict", data := .dict #[] }) scope.names } := by
  have hfree : ∀ y ∈ scope.names, y.2 = .free → ∃ c, X.env.cells.lookup y.1 = some c := fun y hy e => by
    rcases ok.free y hy e with k | k
    · exact I.ok.has _ (.inl k)
    · exact I.ok.has _ (.inr k)
  generalize hcenv : compEnvC scope (cellsFrom (s.heap.objs.size + 1) scope.names (cloFrom X.env.cells scope.names [])) s.heap.objs.size X.env = cenv
  have kp : ∀ b o, s.heap.get? b = some o → (pushCells (s.heap.push { cls := .type "dict", data := .dict #[] }) scope.names).get? b = some o := fun b o e => pushCells_keeps _ _ _ _ (Heap.get?_push_of_some _ e)
  have hL : cenv.locals = s.heap.objs.size := by rw [← hcenv]; rfl
  have hcl : cenv.cells = cellsFrom (s.heap.objs.size + 1) scope.names (cloFrom X.env.cells scope.names []) := by rw [← hcenv]; rfl
  have hsc : cenv.scope = relS scope X.env.scope := by rw [← hcenv]; rfl
  rw [← Heap.size_push s.heap { cls := .type "dict", data := .dict #[] }] at hcl
  have cm : ∀ {y c}, (y, c) ∈ cloFrom X.env.cells scope.names [] → X.env.cells.lookup y = some c ∧ c < s.heap.objs.size := fun {y c} hm => by
    rcases cloFrom_mem hm with hm | ⟨h1, rfl⟩
    · cases hm
    · obtain ⟨c, hc⟩ := hfree _ h1 rfl
      rw [hc]
      obtain ⟨w, z⟩ := I.cell _ _ hc
      exact ⟨rfl, z.lt⟩
  have mem : ∀ {y c}, cenv.cells.lookup y = some c → (X.env.cells.lookup y = some c ∧ c < s.heap.objs.size) ∨ (s.heap.objs.size + 1 ≤ c ∧ CellAt (pushCells (s.heap.push { cls := .type "dict", data := .dict #[] }) scope.names) c none) := fun {y c} e => by
    rw [hcl] at e
    rcases cells_mem (PySem.mem_of_lookup e) with hm | ⟨_, h2, h3⟩
    · exact .inl (cm hm)
    · rw [Heap.size_push] at h2; exact .inr ⟨h2, h3⟩
  have look : ∀ {y}, scope.names.lookup y = some .free → ∃ c, cenv.cells.lookup y = some c ∧ X.env.cells.lookup y = some c := fun {y} hl => by
    have hy : (y, NameKind.free) ∈ scope.names := PySem.mem_of_lookup hl
    obtain ⟨c', e'⟩ := mem_lookup (cells_acc (names := scope.names) (n := (s.heap.push { cls := .type "dict", data := .dict #[] }).objs.size) (cloFrom_has (cells := X.env.cells) (acc := []) hy))
    rw [← hcl] at e'
    refine ⟨c', e', ?_⟩
    rw [hcl] at e'
    rcases cells_mem (PySem.mem_of_lookup e') with hm | ⟨h1, _, _⟩
    · exact (cm hm).1
    · have := ok.uniq _ h1
      rw [hl] at this; cases this
  have okB : (X.blk s H scope cenv fp).Ok := by
    refine ⟨I.ok.mod, by show cenv.scope.kind = _; rw [hsc]; exact ok.kind, by show cenv.globals = _; rw [← hcenv]; exact I.ok.glob, by show cenv.builtins = _; rw [← hcenv]; exact I.ok.blt, by show s.heap.objs.size ≤ cenv.locals; rw [hL]; exact Nat.le_refl _,
      fun y z c e1 e2 => ?_, fun y hy => ?_, fun y c z e => ?_, I.ok.hd, I.ok.frames, .inl rfl, fun b hb => ⟨?_, fun y c e z => ?_⟩, I.bs, Nat.le_trans I.ok.bsz I.sz, fun b o e hb => ?_, fun b hb z => ?_, I.stack, I.stkFree⟩
    · have e1 : cenv.cells.lookup y = some c := e1
      have e2 : cenv.cells.lookup z = some c := e2
      rw [hcl] at e1 e2
      refine cells_inj (fun p hp => ?_) (fun y z c a b => I.ok.inj y z c (cm a).1 (cm b).1) (PySem.mem_of_lookup e1) (PySem.mem_of_lookup e2)
      rw [Heap.size_push]
      exact Nat.lt_succ_of_lt (cm (y := p.1) (c := p.2) hp).2
    · show ∃ c, cenv.cells.lookup y = some c
      have key : ∀ k, cenv.kindOf y = some k → (k = .cell ∨ k = .free) → ∃ c, cenv.cells.lookup y = some c := fun k hk hk' => by
        unfold Env.kindOf at hk
        rw [hsc] at hk
        obtain ⟨k', e, r⟩ := lookup_relS hk
        have : k' = .cell ∨ k' = .free := by
          rcases r with rfl | ⟨rfl, _⟩
          · exact hk'
          · exact .inr rfl
        rcases this with rfl | rfl
        · obtain ⟨c, hm⟩ := cells_has (n := (s.heap.push { cls := .type "dict", data := .dict #[] }).objs.size) (acc := cloFrom X.env.cells scope.names []) (PySem.mem_of_lookup e)
          obtain ⟨c', e'⟩ := mem_lookup hm
          exact ⟨c', by rw [hcl]; exact e'⟩
        · obtain ⟨c, h1, _⟩ := look e
          exact ⟨c, h1⟩
      rcases hy with hy | hy
      · exact key _ hy (.inl rfl)
      · exact key _ hy (.inr rfl)
    · have z : (scope.names.lookup y == some NameKind.cell) = true := z
      have z : scope.names.lookup y = some .cell := by simpa using z
      have e : cenv.cells.lookup y = some c := e
      rw [hcl] at e
      rcases cells_mem (PySem.mem_of_lookup e) with hm | ⟨_, h2, _⟩
      · rcases cloFrom_mem hm with hm | ⟨h1, _⟩
        · cases hm
        · have q := ok.uniq _ h1
          rw [z] at q; cases q
      · rw [Heap.size_push] at h2
        exact Nat.le_of_succ_le h2
    · show b ≠ cenv.locals
      rw [hL]; exact Nat.ne_of_lt (hfp b hb).2
    · have e : cenv.cells.lookup y = some c := e
      rcases mem e with ⟨h1, _⟩ | ⟨h1, _⟩
      · exact (hfp b hb).1.2.2.2.2.1 y c h1 z
      · have h2 : s.heap.objs.size + 1 ≤ b := by rw [← z]; exact h1
        exact absurd (Nat.lt_of_lt_of_le (hfp b hb).2 (Nat.le_of_succ_le h2)) (Nat.lt_irrefl _)
    · rcases (hfp b hb).1.2.2.2.1 with z | z
      · exact I.ok.noex b o e z
      · exact absurd (Nat.lt_of_lt_of_le (Heap.lt_size e) (Nat.le_trans I.ok.bsz z)) (Nat.lt_irrefl _)
    · rcases List.mem_cons.mp (I.stkSub b z) with z | z
      · exact (hfp b hb).1.2.1 z
      · exact (hfp b hb).1.2.2.1 z
  refine ⟨okB, rfl, I.bare, Un.kept kp, ⟨fun _ => none, ?_, fun i y av e1 e2 e3 => ?_⟩, fun y c e => ?_, ?_, fun y c e => ?_, fun p hp => ?_, I.hok.kept kp, by rw [wipe_length]; exact I.len⟩
  · show Heap.Ns _ cenv.locals _
    rw [hL]
    exact Heap.Ns.keeps (Heap.Ns.new ..) fun b o e => pushCells_keeps _ _ _ _ e
  · obtain ⟨e2, hne⟩ := wipe_some e2
    have hfr : scope.names.lookup y = some .free ∧ (cenv.kindOf y = some .cell ∨ cenv.kindOf y = some .free) := by
      have key : ∀ k, cenv.scope.names.lookup y = some k → k = .local ∨ k = .cell ∨ k = .free → scope.names.lookup y = some .free ∧ (cenv.kindOf y = some .cell ∨ cenv.kindOf y = some .free) := fun k hk hk' => by
        have hk0 := hk
        rw [hsc] at hk
        obtain ⟨k', e, r⟩ := lookup_relS hk
        have no : ¬ (k' = .local ∨ k' = .cell) := fun hh => by
          rcases ok.own _ (PySem.mem_of_lookup e) hh with e' | e'
          · obtain ⟨p, hp, hpy⟩ := List.mem_map.mp e'
            have e3 := ok.ix p hp
            have : p.1 = y := hpy
            rw [this] at e3
            exact hne (List.mem_map.mpr ⟨p, hp, nodup_ix hN e3 e1⟩)
          · exact e' (List.mem_of_getElem? e1)
        rcases r with rfl | ⟨rfl, rfl⟩
        · rcases hk' with rfl | rfl | rfl
          · exact absurd (.inl rfl) no
          · exact absurd (.inr rfl) no
          · exact ⟨e, .inr hk0⟩
        · exact ⟨e, .inl hk0⟩
      have e3 : Vis cenv.scope y := e3
      rcases e3 with e3 | e3 | e3
      · exact key _ e3 (.inl rfl)
      · exact key _ e3 (.inr (.inl rfl))
      · exact key _ e3 (.inr (.inr rfl))
    obtain ⟨m, hn, hl⟩ := I.loc
    have hvis : Vis X.env.scope y := (ok.free _ (PySem.mem_of_lookup hfr.1) rfl).elim (fun k => .inr (.inl k)) (fun k => .inr (.inr k))
    obtain ⟨w, r, q⟩ := hl i y av e1 e2 hvis
    refine ⟨w, r, .inr ⟨hfr.2, ?_⟩⟩
    obtain ⟨c, h1, h2⟩ := look hfr.1
    rcases q with ⟨k, _⟩ | ⟨_, c', e', z⟩
    · have k : X.env.scope.names.lookup y = some .local := k
      rcases ok.free _ (PySem.mem_of_lookup hfr.1) rfl with k' | k' <;> rw [show X.env.scope.names.lookup y = _ from k'] at k <;> cases k
    · rw [h2] at e'; cases e'
      exact ⟨c, h1, z.keeps kp⟩
  · have e : cenv.cells.lookup y = some c := e
    rcases mem e with ⟨h1, _⟩ | ⟨_, z⟩
    · obtain ⟨w, z⟩ := I.cell y c h1
      exact ⟨w, z.keeps kp⟩
    · exact ⟨_, z⟩
  · show H cenv.locals = none
    rw [hL]; exact I.hok.fresh (Nat.le_refl _)
  · have e : cenv.cells.lookup y = some c := e
    rcases mem e with ⟨h1, _⟩ | ⟨h1, _⟩
    · exact I.freeC y c h1
    · exact I.hok.fresh (Nat.le_of_succ_le h1)
  · exact absurd (show p ∈ ([] : List (Addr × Obj)) ++ [] from hp) (by simp)
/-- an item appended to a tracked list -/
theorem app_ok {E : Value → Shared → Prop} {D : Addr} {xs : List V} {y : V} {v : Value} {Q : Value → Shared → Prop} (I : Inv X pins σ H s) (hD : H D = some (.lst xs)) (hz : xs.length < sizeLine) (r : RelV y v)
    (h : ∀ s', Inv X pins σ (upd H D (.lst (xs ++ [y]))) s' → Q .none s') : wpAny (model X.prog X.w) X.A (call (.builtin "list.append") [.ref D, v]) Q E s := by
  obtain ⟨hz', its, n, ri, e⟩ := I.hok D _ hD
  have hl := ri.length
  refine append_at (hsz := by rw [List.size_toArray]; omega) e fun h' sb ho' => ?_
  refine h { s with heap := h' } (I.write (t' := s.toks) (by rw [hD]; trivial) (.inl rfl) (fun b u hb q => (sb.2 b hb).trans q) ⟨_, ho'⟩ ⟨by rw [List.length_append]; exact hz, its ++ [v], n + 1, ri.append (.cons r .nil), ?_⟩)
  rw [ho']
  simp
/-- a clause's tests -/
def PTs (X : Cx) (ifs : List Expr) (t : TT) : Prop :=
  ∀ (pins : List (Addr × Obj)) (s : Shared) (σ : St) (H : Hp) (Q : Bool → Hp → Prop), Inv X pins σ H s → t σ H Q →
    wpAny (model X.prog X.w) X.A (forIn ifs true fun c r => if r = true then do let ok ← isTrue c X.env (eval c X.env); pure (ForInStep.yield ok) else pure (ForInStep.yield r)) (TP X pins σ Q) X.xe s
def tYes : TT := fun _ H Q => Q true H
theorem pts_nil : PTs X [] tYes := fun _ _ _ H _ I h => wpAny_tests_nil ⟨H, I, h⟩
end
theorem thnF {α : Type} {t : Sem α} {Q Q' : α → Shared → Prop} {M : Model} {A : Around} {E : Value → Shared → Prop} {s : Shared} (h : wpAny M A t Q (fun _ _ => False) s) (hQ : ∀ a s, Q a s → Q' a s) : wpAny M A t Q' E s := wpAny_mono h hQ fun _ _ z => False.elim z
/-- the loop of a list comprehension's block, the target of any form (codeAny_compLoop_tests asks a target that no tuple goes to; statement and proof follow it, PyProof/CompMap.lean:41-61, with the step letOwnedTupleGo kept) -/
theorem compLoop_any {prog : Program} {w : World} {A : Around} {R : Result → Shared → Prop} {s : Shared} {elt target iter : Expr} {ifs : List Expr} {scope : Scope} {pos : Pos} {it acc : Value} {env : Env} (I : Nat → Shared → Prop)
    (turn : ∀ n s, I n s → wpAny (model prog w) A (pyNext it) (fun r s₁ => match r with
      | none => R (.ok .next) s₁
      | some v => wpAny (model prog w) A (letOwnedTupleGo target it v) (fun _ s₁' => wpAny (model prog w) A (assign target env v) (fun _ s₂ =>
          wpAny (model prog w) A (forIn ifs true fun c r => if r = true then do let ok ← isTrue c env (eval c env); pure (ForInStep.yield ok) else pure (ForInStep.yield r)) (fun ok s₃ =>
            if ok = true then wpAny (model prog w) A (eval elt env) (fun x s₄ =>
              wpAny (model prog w) A (call (.builtin "list.append") [acc, x]) (fun _ s₅ => ∃ m, m < n ∧ I m s₅) (notedBy (model prog w) A env fun e s' => R (.error e) s') s₄) (notedBy (model prog w) A env fun e s' => R (.error e) s') s₃
            else ∃ m, m < n ∧ I m s₃) (notedBy (model prog w) A env fun e s' => R (.error e) s') s₂) (notedBy (model prog w) A env fun e s' => R (.error e) s') s₁') (notedBy (model prog w) A env fun e s' => R (.error e) s') s₁) (notedBy (model prog w) A env fun e s' => R (.error e) s') s)
    (n : Nat) (h : I n s) :
    codeAny (model prog w) A (.compLoop (.ListComp elt [⟨target, iter, ifs, 0⟩] scope pos) 0 it acc env) R s := by
  refine codeAny_loop rfl I (fun n s hI => ?_) n h
  show wpAny _ A ((compTurn (.ListComp elt [⟨target, iter, ifs, 0⟩] scope pos) 0 it acc env).onRaise (fun x => do noteFrame x env; theTreesLotGoes x)) _ _ s
  refine wpAny_noted ?_
  rw [compTurn_list]
  refine wpAny_bind (wpAny_standAt (wpAny_bind (wpAny_mono (turn n s hI) (fun r s₁ h₁ => ?_) fun _ _ h' => h')))
  cases r with
  | none => exact wpAny_pure h₁
  | some v =>
    refine wpAny_bind (wpAny_mono h₁ (fun _ s₁' h₁' => ?_) fun _ _ h' => h')
    refine wpAny_bind (wpAny_mono h₁' (fun _ s₂ h₂ => wpAny_bind (wpAny_mono h₂ (fun ok s₃ h₃ => ?_) fun _ _ h' => h')) fun _ _ h' => h')
    cases ok with
    | false => exact wpAny_pure ⟨rfl, h₃⟩
    | true =>
      exact wpAny_bind (wpAny_bind (wpAny_mono h₃ (fun x s₄ h₄ => wpAny_bind (wpAny_mono h₄ (fun _ s₅ h₅ => wpAny_pure (wpAny_pure ⟨rfl, h₅⟩)) fun _ _ h' => h')) fun _ _ h' => h'))
section
variable {X : Cx}
/-- [elt for target in iter if ..]: D the new list; W by the turn and a measure, Nx what a turn is to reach -/
def tLc (wi : TI) (g : TG) (tt : TT) (te : TE) (vs : List Nat) : TE := fun σ H Q => wi σ H fun J H1 => ∀ D, H1 D = none → ∃ W : Nat → Nat → Hp → Prop, (∃ m, W 0 m (upd H1 D (.lst []))) ∧ ∀ i m H, W i m H →
  (J.stop i H ∧ Q (.ref D) H) ∨ (J.go i H ∧ ∃ Nx : Hp → Prop, (∀ H', Nx H' → ∃ m', m' < m ∧ W (i + 1) m' H') ∧ ∀ x H', J.yld i H x H' → g x (wipe σ vs) H' fun σ2 H2 => wipe σ2 vs = wipe σ vs ∧ tt σ2 H2 fun b H3 =>
    if b = true then te σ2 H3 fun y H4 => ∃ acc, H4 D = some (.lst acc) ∧ acc.length < sizeLine ∧ Nx (upd H4 D (.lst (acc ++ [y]))) else Nx H3)
theorem lc_core {pins : List (Addr × Obj)} {s : Shared} {σ : St} {H : Hp} {Q : VK} {elt tg iter : Expr} {ifs : List Expr} {scope : Scope} {own : List (Str × Nat)} {pos pos' : Pos} {wi : TI} {g : TG} {tt : TT} {te : TE} {use : Option (Value → Sem Unit)} {Qf : Value → Shared → Prop}
    (hc : X.calm = true) (hN : X.N.Nodup) (I : Inv X pins σ H s) (hi : PI X tg iter wi) (ok : BlkOk X.N X.env.scope scope own)
    (hg : ∀ (s : Shared) (H : Hp) (C : Addr) (cl : List (Str × Addr)) (fp : List Addr), PG (X.blk s H scope (compEnvC scope cl C X.env) fp) tg g) (ht : ∀ (s : Shared) (H : Hp) (C : Addr) (cl : List (Str × Addr)) (fp : List Addr), PTs (X.blk s H scope (compEnvC scope cl C X.env) fp) ifs tt)
    (he : ∀ (s : Shared) (H : Hp) (C : Addr) (cl : List (Str × Addr)) (fp : List Addr), PE (X.blk s H scope (compEnvC scope cl C X.env) fp) elt te) (hs : ∀ x, foldedSetIterable iter X.env x = pure x)
    (h : tLc wi g tt te (own.map (·.2)) σ H Q)
    (hRR : ∀ D C s' m H', Inv X pins σ H' s' → Q (.ref D) H' → s'.heap.Ns C m → FpOk X pins H' C → compPost (model X.prog X.w) X.A X.xe use Qf (.ref D) C (.ok .next) s') :
    wpAny (model X.prog X.w) X.A (comprehension (.ListComp elt [⟨tg, iter, ifs, 0⟩] scope pos) scope X.env pos' (newList []) false (eval iter X.env) use) Qf X.xe s := by
  have hfree : ∀ y ∈ scope.names, y.2 = .free → ∃ c, X.env.cells.lookup y.1 = some c := fun y hy e => by
    rcases ok.free y hy e with k | k
    · exact I.ok.has _ (.inl k)
    · exact I.ok.has _ (.inr k)
  refine wpAny_comprehension_free (use := use) rfl hs (closure_ok hfree) ok.kind (fun y hy e => by rw [ok.uniq y hy, e])
    (thn (hi pins s σ H _ I h) fun xv s1 hx => thn hx fun itv s2 h2 => ?_)
  obtain ⟨it, fp, tn, J, H2, e, I2, T, st2, f2, q⟩ := h2
  subst e
  refine wpAny_newObj_type (newEnv_comp ?_) (by show 0 ≤ sizeLine; decide)
  generalize hD : s2.heap.objs.size = D
  have hDn : H2 D = none := I2.hok.fresh (Nat.le_of_eq hD)
  obtain ⟨W, ⟨m0, w0⟩, turn⟩ := q D hDn
  -- the new list
  generalize hs3 : ({ s2 with heap := s2.heap.push { cls := .type "list", data := .seq ([] : List Value).toArray } } : Shared) = s3
  have I3 : Inv X pins σ (upd H2 D (.lst [])) s3 := by
    rw [← hs3]
    refine I2.laid (t' := s2.toks) (fun b o e => Heap.get?_push_of_some _ e) (Nat.le_of_eq hD) ⟨Nat.zero_le _, [], 0, .nil, ?_⟩
    rw [← hD]
    exact Heap.get?_push_size _ rfl
  have h3 : s3.heap = s2.heap.push { cls := .type "list", data := .seq ([] : List Value).toArray } := by rw [← hs3]
  have sz : ∀ b ∈ fp, b < s2.heap.objs.size := fun b hb => by
    obtain ⟨o, e, _⟩ := T.obj _ _ st2 b hb
    exact Heap.lt_size e
  have f3 : ∀ b ∈ fp, FpOk X pins (upd H2 D (.lst [])) b ∧ b < s3.heap.objs.size := fun b hb => by
    have hlt := sz b hb
    refine ⟨⟨?_, (f2 b hb).2⟩, by rw [h3, Heap.size_push]; exact Nat.lt_succ_of_lt hlt⟩
    rw [upd_ne (by rw [← hD]; exact Nat.ne_of_lt hlt)]
    exact (f2 b hb).1
  have st3 : tn 0 s3.heap := T.keep _ _ _ st2 fun b _ o e => by rw [h3]; exact Heap.get?_push_of_some _ e
  have I4 := block_start I3 ok hN f3
  have pg := hg s3 (upd H2 D (.lst [])) s3.heap.objs.size (cellsFrom (s3.heap.objs.size + 1) scope.names (cloFrom X.env.cells scope.names [])) fp
  have pt := ht s3 (upd H2 D (.lst [])) s3.heap.objs.size (cellsFrom (s3.heap.objs.size + 1) scope.names (cloFrom X.env.cells scope.names [])) fp
  have pe := he s3 (upd H2 D (.lst [])) s3.heap.objs.size (cellsFrom (s3.heap.objs.size + 1) scope.names (cloFrom X.env.cells scope.names [])) fp
  show codeAny _ _ (.compStart (.ListComp elt [⟨tg, iter, ifs, 0⟩] scope pos) 0 (.ref it) (.ref D) (compEnvC scope (cellsFrom (s3.heap.objs.size + 1) scope.names (cloFrom X.env.cells scope.names [])) s3.heap.objs.size X.env)) (compPost (model X.prog X.w) X.A X.xe use Qf (.ref D) s3.heap.objs.size) { s3 with heap := pushCells (s3.heap.push { cls := .type "dict", data := .dict #[] }) scope.names }
  have nfp : ∀ b ∈ fp, (upd H2 D (.lst [])) b = none := fun b hb => (f3 b hb).1.1
  generalize hce : compEnvC scope (cellsFrom (s3.heap.objs.size + 1) scope.names (cloFrom X.env.cells scope.names [])) s3.heap.objs.size X.env = ce at I4 pg pt pe ⊢
  have cL : ce.locals = s3.heap.objs.size := by subst hce; rfl
  generalize hH3 : upd H2 D (.lst []) = H3 at I3 I4 pg pt pe w0 nfp f3
  generalize hs4 : ({ s3 with heap := pushCells (s3.heap.push { cls := .type "dict", data := .dict #[] }) scope.names } : Shared) = s4 at I4 ⊢
  have st4 : tn 0 s4.heap := T.keep _ _ _ st3 fun b _ o e => by rw [← hs4]; exact pushCells_keeps _ _ _ _ (Heap.get?_push_of_some _ e)
  have stat : ∀ {σ' : St} {H' : Hp} {s' : Shared}, Inv (X.blk s3 H3 scope ce fp) [] σ' H' s' → (∀ b ∈ fp, H' b = none) → ∀ b ∈ fp, FpOk (X.blk s3 H3 scope ce fp) [] H' b := fun {σ' H' s'} I' hn b hb =>
    ⟨hn b hb, (I'.ok.exf b hb).1, I'.ok.exfs b hb, .inl hb, fun x c e => (I'.ok.exf b hb).2 x c e, fun p hp => absurd (show p ∈ ([] : List (Addr × Obj)) ++ [] from hp) (by simp)⟩
  have loop : codeAny (model X.prog X.w) X.A (.compLoop (.ListComp elt [⟨tg, iter, ifs, 0⟩] scope pos) 0 (.ref it) (.ref D) ce) (compPost (model X.prog X.w) X.A X.xe use Qf (.ref D) s3.heap.objs.size) s4 := by
    refine compLoop_any (fun n s' => ∃ i H', Inv (X.blk s3 H3 scope ce fp) [] (wipe σ (own.map (·.2))) H' s' ∧ tn i s'.heap ∧ (∀ b ∈ fp, H' b = none) ∧ W i n H') ?_ m0 ⟨0, H3, I4, st4, nfp, w0⟩
    rintro n s5 ⟨i, H5, I5, st5, n5, w5⟩
    rcases turn i n H5 w5 with ⟨stop, qq⟩ | ⟨go, Nx, hNx, step⟩
    · have td := T.done (X.blk s3 H3 scope ce fp) rfl rfl rfl hc i [] s5 _ H5 (fun _ _ => False) I5 (stat I5 n5) st5 stop
      refine thnF td fun r s6 ⟨hr, I6⟩ => ?_
      subst hr
      -- back in the def's context
      have I7 : Inv X pins σ H5 s6 := I3.call' (ch := fp) I6.os I6.base I6.hok I6.bare fun b hb => ⟨(f3 b hb).1.2.2.2.1, (f3 b hb).1.2.1, (f3 b hb).1.2.2.2.2.1, (f3 b hb).1.2.2.2.2.2⟩
      have nC : H5 s3.heap.objs.size = none := by
        have z : H5 ce.locals = none := I6.free
        rw [cL] at z
        exact z
      obtain ⟨m, hn, _⟩ := I6.loc
      have hn : s6.heap.Ns ce.locals m := hn
      rw [cL] at hn
      exact hRR D s3.heap.objs.size s6 m H5 I7 qq hn (I3.fpOk (Nat.le_refl _) nC)
    · have ti := T.item (X.blk s3 H3 scope ce fp) rfl rfl rfl hc i [] s5 _ H5 (fun _ _ => False) I5 (stat I5 n5) st5 go
      refine thnF ti fun r s6 ⟨u, hr, h6⟩ => ?_
      subst hr
      refine thnF h6 fun _ s7 ⟨x, H7, I7, r7, y7, st7, n7⟩ => ?_
      have I7' := I7.pinned (stat I7 n7) (T.obj _ _ st7)
      refine thnF (pg _ s7 _ H7 x u _ I7' r7 (step x H7 y7)) fun _ s8 ⟨σ8, H8, I8, hw8, q8⟩ => ?_
      refine thnF (pt _ s8 σ8 H8 _ I8 q8) fun b s9 ⟨H9, I9, q9⟩ => ?_
      -- the turn's end
      have fin : ∀ {s' : Shared} {H' : Hp}, Inv (X.blk s3 H3 scope ce fp) ([] ++ pinsAt fp s7.heap) σ8 H' s' → Nx H' → ∃ m, m < n ∧ ∃ i H', Inv (X.blk s3 H3 scope ce fp) [] (wipe σ (own.map (·.2))) H' s' ∧ tn i s'.heap ∧ (∀ b ∈ fp, H' b = none) ∧ W i m H' := fun {s' H'} I' nx => by
        obtain ⟨m', hm, w'⟩ := hNx H' nx
        have pin' : ∀ b ∈ fp, ∀ o, s7.heap.get? b = some o → s'.heap.get? b = some o ∧ H' b = none := fun b hb o e =>
          let z := I'.pin (b, o) (List.mem_append_right _ (List.mem_append_right _ (mem_pinsAt hb e)))
          ⟨z.1, z.2.1⟩
        have hl : (wipe σ (own.map (·.2))).length = σ8.length := by rw [← hw8, wipe_length]
        refine ⟨m', hm, i + 1, H', (I'.unpinned (pins := [])).weak hl (fun j v e => ?_), T.keep _ _ _ st7 fun b hb o e => (pin' b hb o e).1, fun b hb => ?_, w'⟩
        · rw [← hw8] at e
          exact (wipe_some e).1
        · obtain ⟨o, e, _⟩ := T.obj _ _ st7 b hb
          exact (pin' b hb o e).2
      cases b with
      | false =>
        simp only [Bool.false_eq_true, if_false] at q9 ⊢
        exact fin I9 q9
      | true =>
        simp only [if_true] at q9 ⊢
        refine thnF (pe _ s9 σ8 H9 _ I9 q9) fun z s10 ⟨yv, H10, I10, r10, acc, hD10, hz10, nx⟩ => ?_
        exact app_ok (X := X.blk s3 H3 scope ce fp) I10 hD10 hz10 r10 fun s11 I11 => fin I11 nx
  exact codeAny_compStart_list loop (T.self X.A 0 _ _ _ st4 loop)
/-- as a value -/
theorem pe_lc {elt tg iter : Expr} {ifs : List Expr} {scope : Scope} {own : List (Str × Nat)} {pos : Pos} {wi : TI} {g : TG} {tt : TT} {te : TE} (hc : X.calm = true) (hN : X.N.Nodup) (hi : PI X tg iter wi) (ok : BlkOk X.N X.env.scope scope own)
    (hg : ∀ (s : Shared) (H : Hp) (C : Addr) (cl : List (Str × Addr)) (fp : List Addr), PG (X.blk s H scope (compEnvC scope cl C X.env) fp) tg g) (ht : ∀ (s : Shared) (H : Hp) (C : Addr) (cl : List (Str × Addr)) (fp : List Addr), PTs (X.blk s H scope (compEnvC scope cl C X.env) fp) ifs tt)
    (he : ∀ (s : Shared) (H : Hp) (C : Addr) (cl : List (Str × Addr)) (fp : List Addr), PE (X.blk s H scope (compEnvC scope cl C X.env) fp) elt te) (hs : ∀ x, foldedSetIterable iter X.env x = pure x := by intro _; rfl) :
    PE X (.ListComp elt [⟨tg, iter, ifs, 0⟩] scope pos) (tLc wi g tt te (own.map (·.2))) := by
  intro pins s σ H Q I h
  rw [eval_ListComp]
  refine lc_core hc hN I hi ok hg ht he hs h fun D C s' m H' I' q hn f => ⟨m, hn, fun h'' sb => ?_⟩
  obtain ⟨f0, f1, f2, f3, f4, f5⟩ := f
  exact ⟨.ref D, H', I'.turned (t' := s'.toks) (fun b o hb e => (sb.2 b hb).trans e) f0 f1 f3 f4 f5, rfl, q⟩
end
/-! ### the forms one uses -/
/-- over a list that the block leaves as it is -/
theorem lc_list {K : PySem.W.Frag} {a : Addr} {xs : List V} {g : TG} {tt : TT} {te : TE} {vs : List Nat} {σ : St} {H1 : Hp} {D : Addr} {Qd : Hp → Prop} (Pv : Nat → Hp → Prop) (h0 : Pv 0 (upd H1 D (.lst []))) (hl : ∀ i H, i ≤ xs.length → Pv i H → SqL K H a xs)
    (hs : ∀ i x H, xs[i]? = some x → Pv i H → g x (wipe σ vs) H fun σ2 H2 => wipe σ2 vs = wipe σ vs ∧ tt σ2 H2 fun b H3 =>
      if b = true then te σ2 H3 fun y H4 => ∃ acc, H4 D = some (.lst acc) ∧ acc.length < sizeLine ∧ Pv (i + 1) (upd H4 D (.lst (acc ++ [y]))) else Pv (i + 1) H3) (hd : ∀ H, Pv xs.length H → Qd H) :
    ∃ W : Nat → Nat → Hp → Prop, (∃ m, W 0 m (upd H1 D (.lst []))) ∧ ∀ i m H, W i m H →
      ((Itl K a).stop i H ∧ Qd H) ∨ ((Itl K a).go i H ∧ ∃ Nx : Hp → Prop, (∀ H', Nx H' → ∃ m', m' < m ∧ W (i + 1) m' H') ∧ ∀ x H', (Itl K a).yld i H x H' → g x (wipe σ vs) H' fun σ2 H2 => wipe σ2 vs = wipe σ vs ∧ tt σ2 H2 fun b H3 =>
        if b = true then te σ2 H3 fun y H4 => ∃ acc, H4 D = some (.lst acc) ∧ acc.length < sizeLine ∧ Nx (upd H4 D (.lst (acc ++ [y]))) else Nx H3) := by
  refine ⟨fun i m H => m = xs.length - i ∧ i ≤ xs.length ∧ Pv i H, ⟨xs.length, by simp, Nat.zero_le _, h0⟩, ?_⟩
  rintro i m H ⟨rfl, hi, p⟩
  have q := hl i H hi p
  by_cases hlt : i < xs.length
  · refine .inr ⟨⟨xs, xs[i], q, by simp [hlt]⟩, Pv (i + 1), fun H' p' => ⟨xs.length - (i + 1), by omega, rfl, hlt, p'⟩, fun x H' y => ?_⟩
    obtain ⟨e, y⟩ := y
    subst e
    exact hs i x _ (y xs q) p
  · have e : i = xs.length := by omega
    subst e
    exact .inl ⟨⟨xs, q, Nat.le_refl _⟩, hd H p⟩
def blkC (N : List Str) (sc scope : Scope) (own : List (Str × Nat)) : Bool :=
  (match scope.kind with | .function => true | _ => false) && (scope.names.all fun y => decide (scope.names.lookup y.1 = some y.2)) && (own.all fun p => decide (N[p.2]? = some p.1)) &&
    (scope.names.all fun y => match y.2 with
      | .free => (match sc.names.lookup y.1 with | some .cell => true | some .free => true | _ => false)
      | .local => decide (y.1 ∈ own.map (·.1)) || decide (y.1 ∉ N)
      | .cell => decide (y.1 ∈ own.map (·.1)) || decide (y.1 ∉ N)
      | _ => true)
theorem blkOk_by {N : List Str} {sc scope : Scope} {own : List (Str × Nat)} (h : blkC N sc scope own = true) : BlkOk N sc scope own := by
  unfold blkC at h
  simp only [Bool.and_eq_true, List.all_eq_true, decide_eq_true_eq] at h
  obtain ⟨⟨⟨h1, h2⟩, h3⟩, h4⟩ := h
  refine ⟨?_, h2, h3, fun y hy e => ?_, fun y hy e => ?_⟩
  · split at h1
    · assumption
    · cases h1
  · have q := h4 y hy
    simp only [e] at q
    split at q <;> first | exact .inl (by assumption) | exact .inr (by assumption) | cases q
  · have q := h4 y hy
    rcases e with e | e <;> (simp only [e, Bool.or_eq_true, decide_eq_true_eq] at q; exact q)
end L2
namespace L2
open PySem PySem.Spec PyProof.Rows
section
variable {prog : Program} {w : World} {A : Around} {R : Result → Shared → Prop} {s : Shared} {elt t0 i0 t1 i1 : Expr} {ifs0 ifs1 : List Expr} {scope : Scope} {pos : Pos} {it acc : Value} {env : Env}
end
section
variable {X : Cx}
end
end L2
namespace L2
open PySem PySem.Spec PyProof.Rows
/-! ### lists of pairs as tables -/
section
variable {κ : Type} [DecidableEq κ]
end
/-! ### a tracked dict, its keys ints and texts or tuples of these -/
section
variable {P : Program} {w : World} {H : Hp} {h : Heap} {a : Addr}
end
section
variable {X : Cx} {pins : List (Addr × Obj)} {σ : St} {H : Hp} {s : Shared} {a : Addr} {y v : V} {u r : Value} {o : Option V} {A : Around} {E : Value → Shared → Prop}
end
section
variable {X : Cx} {pins : List (Addr × Obj)} {σ : St} {H : Hp} {s : Shared} {a : Addr} {kvs : List (Key × V)} {k : Key} {u : Value} {A : Around} {E : Value → Shared → Prop}
end
/-! ### readings and rules -/
section
variable {X : Cx} {o i e value : Expr} {pos pos' tpos : Pos} {td ty tv : TE}
end
/-! ### displays -/
section
variable {X : Cx} {pos : Pos}
end
/-! ### methods -/
section
variable {X : Cx} {pins : List (Addr × Obj)} {σ : St} {H : Hp} {s : Shared} {a : Addr} {y d : V} {u r : Value} {o : Option V} {A : Around} {E : Value → Shared → Prop}
end
section
variable {X : Cx} {o e f : Expr} {apos cpos : Pos} {td ty tx : TE}
end
/-! ### dict(d): a copy -/
section
variable {X : Cx} {pins : List (Addr × Obj)} {σ : St} {H : Hp} {s : Shared} {a : Addr} {kvs : List (Key × V)} {A : Around} {E : Value → Shared → Prop}
end
section
variable {X : Cx} {pins : List (Addr × Obj)} {σ : St} {H : Hp} {s : Shared} {a : Addr} {y : V} {u : Value} {A : Around} {E : Value → Shared → Prop}
end
end L2
namespace L2
open PySem PySem.Spec PyProof.Rows
section
variable {prog : Program} {w : World} {A : Around} {E : Value → Shared → Prop}
end
section
variable {X : Cx}
end
end L2
namespace L2
open PySem PySem.Spec PyProof.Rows
section
variable {X : Cx} {pins : List (Addr × Obj)} {σ : St} {H : Hp} {s : Shared} {h' : Heap}
/-- .. and one new object is laid -/
theorem Inv.turnedNew {t' : Nat} {ch : List Addr} {T : Addr} {ob : HO} (I : Inv X pins σ H s) (k : ∀ b o, b ∉ ch → s.heap.get? b = some o → h'.get? b = some o) (hf : ∀ b ∈ ch, FpOk X pins H b) (hT : s.heap.objs.size ≤ T)
    (new : ObjOk X.prog X.w (upd H T ob) h' T ob) : Inv X pins σ (upd H T ob) { s with heap := h', toks := t' } := by
  have hn : H T = none := I.hok.fresh hT
  have nit : ∀ b u, H b = some u → b ∉ ch := fun b u e z => by
    have q := (hf b z).1
    rw [q] at e; cases e
  refine I.step (g' := s.gens) (d' := s.drawn) (ch := ch) (fun b hb => ⟨(hf b hb).2.2.2.1, (hf b hb).2.1, (hf b hb).2.2.2.2.1, (hf b hb).2.2.2.2.2⟩) (fun b o _ _ hc e _ => k b o hc e) (fun b o _ _ hc e _ => ⟨o.slots, k b o hc e⟩)
    (fun b o _ e n => ?_) (fun b o hc e => ⟨o, k b o hc e⟩) (fun b xs e => ?_) (fun b o u e => ?_) (fun b ps e => ⟨#[], ?_⟩) (fun m hm => ?_) (fun b u e => ?_) I.bare
  · rw [upd_ne (Nat.ne_of_lt (Nat.lt_of_lt_of_le (Heap.lt_size e) hT))]; exact n
  · rw [upd_ne (ne_of_none e hn)]; exact e
  · rw [upd_ne (ne_of_none e hn)]; exact e
  · rw [upd_ne (ne_of_none e hn), e]; simp
  · obtain ⟨o, es, ep, ho, r⟩ := hm
    exact ⟨o, es, ep, k _ o (fun z => (hf _ z).2.1 rfl) ho, r⟩
  · by_cases hb : b = T
    · subst hb
      rw [upd_same] at e
      cases e
      exact new
    · rw [upd_ne hb] at e
      refine (I.hok b u e).stay (fun c v hc q => k c v ?_ q) (fun c q => by rw [upd_ne (ne_of_none q hn)]; exact q) fun c xs q => by rw [upd_ne (ne_of_none q hn)]; exact q
      rcases hc with z | z
      · rw [z]; exact nit b u e
      · exact nit c _ z
/-! ### locking a thing while a statement runs -/
end
section
variable {X : Cx}
/-! ### one iterator just laid -/
theorem pi_one {tg : Expr} {pins : List (Addr × Obj)} {σ : St} {H : Hp} {s : Shared} {R : It → Hp → Prop} {J : It} {tn : Nat → Heap → Prop} {tk : Nat} (I : Inv X pins σ H s) (o : Obj)
    (T : Turn X.prog X.w X.K tg J [s.heap.objs.size] s.heap.objs.size tn) (st : tn 0 (s.heap.push o)) (q : R J H) : PIE X pins σ tg R (.ref s.heap.objs.size) { s with heap := s.heap.push o, toks := tk } := by
  refine ⟨s.heap.objs.size, [s.heap.objs.size], tn, J, H, rfl, I.kept fun b ob e => Heap.get?_push_of_some _ e, T, st, fun b hb => ?_, q⟩
  have e : b = s.heap.objs.size := by simpa using hb
  subst e
  exact I.fpOk (Nat.le_refl _) (I.hok.fresh (Nat.le_refl _))
end
/-! ### range with a step -/
section
variable {X : Cx} {tg : Expr}
end
/-! ### reversed(list) -/
section
variable {X : Cx} {tg : Expr}
end
/-! ### a str -/
def Its (x : Str) : It := ⟨fun i _ => i < x.cps.size, fun i H v H' => H' = H ∧ ∃ c, x.cps[i]? = some c ∧ v = .str ⟨#[c]⟩, fun i _ => x.cps.size ≤ i⟩
theorem turn_str {P : Program} {w : World} {K : PySem.W.Frag} {tg : Expr} (it : Addr) (x : Str) (t : Tok) (ty : String) (hty : ty = "str_ascii_iterator" ∨ ty = "str_iterator") :
    Turn P w K tg (Its x) [it] it (fun i h => h.IsStrIter it ty x t i) where
  mem := by simp
  obj := fun i h st b hb => by
    have e : b = it := by simpa using hb
    subst e
    obtain ⟨o, e, c, d⟩ := st
    exact ⟨o, e, fun v z => by rw [d] at z; cases z⟩
  keep := fun i h h' st k => let ⟨o, ho, r⟩ := st; ⟨o, k it (by simp) o ho, r⟩
  item := by
    intro X hP hw hK hc i pins s σ H E I hf st hg
    subst hP hw hK
    obtain ⟨f0, f1, f2, f3, f4, f5⟩ := hf it (by simp)
    have W : Walks X.prog X.w X.A it [it] [it] x.cps.size (SignAt x) (fun i h => h.IsStrIter it ty x t i) := by
      rcases hty with e | e
      · rw [e]; exact Walks.strAscii (I.ok.hd hc) it x t
      · rw [e]; exact Walks.strWide (I.ok.hd hc) it x t
    have hno : ["enumerate", "zip", "dict_itemiterator", "dict_reverseitemiterator", "odict_iterator", "itertools.zip_longest", "itertools.pairwise"].contains ty = false := by
      rcases hty with e | e
      · rw [e]; decide
      · rw [e]; decide
    refine W.item i s _ _ hg st fun v h' tk hv st' kk => ?_
    obtain ⟨c, u, hcx, rfl⟩ := hv
    have I1 : Inv X pins σ H { s with heap := h', toks := tk } := I.turned (fun b o hb e => kk b o (by simpa using hb) e) f0 f1 f3 f4 f5
    obtain ⟨oi, e, cc, dd⟩ := id st'
    exact ⟨_, rfl, go_of (s := { s with heap := h', toks := tk }) e cc dd hno ⟨.str ⟨#[c]⟩, H, I1, ⟨u, rfl⟩, ⟨rfl, c, hcx, rfl⟩, st', fun b hb => (hf b hb).1⟩⟩
  done := by
    intro X hP hw hK hc i pins s σ H E I hf st hg
    subst hP hw hK
    obtain ⟨f0, f1, f2, f3, f4, f5⟩ := hf it (by simp)
    have hx : x.cps[i]? = none := Array.getElem?_eq_none hg
    rcases hty with e | e
    · rw [e] at st
      exact wpAny_pyNext_ascii_end (I.ok.hd hc) st hx fun h' eb => ⟨rfl, I.turned (t' := s.toks) (fun b o hb e => eb b o hb e) f0 f1 f3 f4 f5⟩
    · rw [e] at st
      exact wpAny_pyNext_wide_end (I.ok.hd hc) st hx fun h' eb => ⟨rfl, I.turned (t' := s.toks) (fun b o hb e => eb b o hb e) f0 f1 f3 f4 f5⟩
  self := fun A i s Q E st h => by
    rcases hty with e | e
    · rw [e] at st; exact wpAny_pyIter_striter_ascii st h
    · rw [e] at st; exact wpAny_pyIter_striter_wide st h
def iStr (te : TE) : TI := fun σ H R => te σ H fun v H1 => ∃ x, v = .str x ∧ R (Its x) H1
theorem pi_str {X : Cx} {tg e : Expr} {te : TE} (he : PE X e te) : PI X tg e (iStr te) := by
  intro pins s σ H R I h
  refine thn (he pins s σ H _ I h) fun v s1 ⟨y, H1, I1, r1, x, ex, q⟩ => ?_
  subst ex
  obtain ⟨t, rfl⟩ := r1
  cases ha : x.cps.all (· < 128)
  · exact wpAny_pyIter_wide ha (pi_one (tk := s1.toks) I1 _ (turn_str _ x t "str_iterator" (.inr rfl)) ⟨_, Heap.get?_push_size _ rfl, rfl, rfl⟩ q)
  · exact wpAny_pyIter_ascii ha (pi_one (tk := s1.toks) I1 _ (turn_str _ x t "str_ascii_iterator" (.inl rfl)) ⟨_, Heap.get?_push_size _ rfl, rfl, rfl⟩ q)
/-! ### a dict's keys: any dict's entries -/
section
variable {prog : Program} {w : World} {A : Around} {E : Value → Shared → Prop} {s : Shared}
end
/-! ### a locked dict -/
section
variable {X : Cx} {pins : List (Addr × Obj)} {σ : St} {H : Hp} {s : Shared} {d : Addr} {o : Obj}
end
section
variable {P : Program} {w : World} {K : PySem.W.Frag} {tg : Expr} {d : Addr} {o : Obj} {es : Array DictEntry} {ep : Nat}
end
/-! ### for k in d, d.keys(), d.values(), d.items() -/
section
variable {X : Cx} {tg e : Expr} {td : TE} {apos cpos : Pos}
end
/-! ### enumerate(list) -/
/-- the list at a as it stands at each turn, each item in a new pair -/
def Ite (K : PySem.W.Frag) (a : Addr) : It :=
  ⟨fun i H => ∃ (xs : List V) (x : V), SqL K H a xs ∧ xs[i]? = some x, fun i H v H' => ∃ T x, v = .ref T ∧ H T = none ∧ H' = upd H T (.tup [.int (i : Nat), x]) ∧ ∀ xs, SqL K H a xs → xs[i]? = some x, fun i H => ∃ xs : List V, SqL K H a xs ∧ xs.length ≤ i⟩
theorem turn_enum {P : Program} {w : World} {K : PySem.W.Frag} {elts : List Expr} {kk : Nat} {tpos : Pos} (a e it : Addr) :
    Turn P w K (.Tuple elts kk tpos) (Ite K a) [e, it] e (fun i h => (∃ old, IsEnum h e it ((i : Nat) : Int) old) ∧ h.IsListIter it a i ∧ e ≠ it) where
  mem := by simp
  obj := fun i h st b hb => by
    obtain ⟨⟨old, he⟩, ⟨o, ho, hc, hd⟩, _⟩ := st
    have e' : b = e ∨ b = it := by simpa using hb
    rcases e' with z | z
    · rw [z]; exact ⟨_, he, fun v q => nomatch q⟩
    · rw [z]; exact ⟨o, ho, fun v q => by rw [hd] at q; cases q⟩
  keep := fun i h h' st k => let ⟨⟨old, he⟩, hi, hne⟩ := st; ⟨⟨old, k e (by simp) _ he⟩, hi.at fun o q => k it (by simp) o q, hne⟩
  item := by
    intro X hP hw hK hc i pins s σ H E I hf st hg
    subst hP hw hK
    obtain ⟨⟨old, he⟩, hit, hne⟩ := st
    obtain ⟨xs, x, hq, hx⟩ := hg
    obtain ⟨its, rv, p, hz⟩ := I.list hq
    obtain ⟨u, hu, ru⟩ := rv.get hx
    have hel : e < s.heap.objs.size := Heap.lt_size he
    have hil : it < s.heap.objs.size := by obtain ⟨_, q, _⟩ := hit; exact Heap.lt_size q
    refine wpAny_pyNext_enum_item he hit p.isList (x := u) (by simpa using hu) hne fun h' ho hit' hT hsz hk => ?_
    refine ⟨_, rfl, wpAny_letOwnedTupleGo_enum (s := { s with heap := h', toks := s.toks + 1 }) ho fun h'' he' sb => ?_⟩
    have hT2 : h''.get? s.heap.objs.size = some { cls := .type "tuple", data := .seq #[.int i s.toks, u] } := (sb.2 _ (Nat.ne_of_gt hel)).trans hT
    have new : ObjOk X.prog X.w (upd H s.heap.objs.size (.tup [.int (i : Nat), x])) h'' s.heap.objs.size (.tup [.int (i : Nat), x]) :=
      ⟨by show 2 ≤ sizeLine; decide, [.int i s.toks, u], .cons ⟨_, rfl⟩ (.cons ru .nil), ⟨_, hT2, rfl, _, rfl⟩⟩
    have I1 : Inv X pins σ (upd H s.heap.objs.size (.tup [.int (i : Nat), x])) { s with heap := h'', toks := s.toks + 1 } :=
      I.turnedNew (ch := [e, it]) (fun b ob hb q => (sb.2 b (fun z => hb (by simp [z]))).trans (hk b ob (fun z => hb (by simp [z])) (fun z => hb (by simp [z])) q)) hf (Nat.le_refl _) new
    refine ⟨.ref s.heap.objs.size, _, I1, rfl, ⟨_, x, rfl, I.hok.fresh (Nat.le_refl _), rfl, fun ys hy => by rw [I.list_inj hy hq]; exact hx⟩, ⟨⟨u, ?_⟩, hit'.at fun o q => (sb.2 it (Ne.symm hne)).trans q, hne⟩, fun b hb => ?_⟩
    · have e1 : ((i + 1 : Nat) : Int) = (i : Int) + 1 := by omega
      rw [e1]; exact he'
    · have hb' : b < s.heap.objs.size := by
        have e' : b = e ∨ b = it := by simpa using hb
        rcases e' with z | z
        · rw [z]; exact hel
        · rw [z]; exact hil
      rw [upd_ne (Nat.ne_of_lt hb')]
      exact (hf b hb).1
  done := by
    intro X hP hw hK hc i pins s σ H E I hf st hg
    subst hP hw hK
    obtain ⟨⟨old, he⟩, hit, hne⟩ := st
    obtain ⟨xs, hq, hx⟩ := hg
    obtain ⟨its, rv, p, hz⟩ := I.list hq
    obtain ⟨f0, f1, f2, f3, f4, f5⟩ := hf it (by simp)
    have hl := rv.length
    exact wpAny_pyNext_enum_end (I.ok.hd hc) he hit p.isList (by simp; omega) fun h' eb => ⟨rfl, I.turned (t' := s.toks) (fun b o hb q => eb b o hb q) f0 f1 f3 f4 f5⟩
  self := fun A i s Q E st h => let ⟨⟨_, he⟩, _⟩ := st; wpAny_pyIter_enum he h
def iEnum (K : PySem.W.Frag) (ta : TA) : TI := fun σ H R => ta σ H fun vs H1 => ∃ a xs, vs = [.ref a] ∧ SqL K H1 a xs ∧ R (Ite K a) H1
theorem pi_enum {X : Cx} {e : Expr} {ta : TA} {p pos tpos : Pos} {elts : List Expr} {kk : Nat} (hg : Gl X "enumerate") (hm : X.mg "enumerate" = none) (ha : PA X [e] ta) (hs : starEach [e] X.env = [(false, eval e X.env)] := by rfl) :
    PI X (.Tuple elts kk tpos) (.Call (.Name "enumerate" p) [e] [] pos) (iEnum X.K ta) := by
  intro pins s σ H R I h
  refine Call_ (ld_blt I hg hm boot_enumerate (PyProof.Rows.callWith_type1 (thn (ha pos pins s σ H _ I h) fun us s1 ⟨vs, H1, I1, r1, q1⟩ => ?_) hs rfl))
  obtain ⟨a, xs, ex, hq, q⟩ := q1
  subst ex
  cases r1 with
  | cons r rr =>
    cases rr
    cases r
    obtain ⟨its, rv, p', hz⟩ := I1.list hq
    refine call_enumerate_list p'.isList fun h' he hit hsz hk => wpAny_pyIter_enum he ?_
    have I2 : Inv X pins σ H1 { s1 with heap := h' } := I1.kept (t' := s1.toks) hk
    refine ⟨s1.heap.objs.size + 1, [s1.heap.objs.size + 1, s1.heap.objs.size], _, _, H1, rfl, I2, turn_enum a (s1.heap.objs.size + 1) s1.heap.objs.size, ⟨⟨.none, he⟩, hit, Nat.succ_ne_self _⟩, fun b hb => ?_, q⟩
    have e' : b = s1.heap.objs.size + 1 ∨ b = s1.heap.objs.size := by simpa using hb
    have hle : s1.heap.objs.size ≤ b := by
      rcases e' with z | z
      · rw [z]; exact Nat.le_add_right _ _
      · rw [z]; exact Nat.le_refl _
    exact I1.fpOk hle (I1.hok.fresh hle)
/-! ### zip(list, list) -/
end L2
section 
namespace Bits
open PySem PyProof.Rows
end Bits
end 
section 
namespace TL
open PySem PySem.Builtin PySem.Builtin.Str PySem.StrLaws
/-! ### the list functions -/
/-! ### the model's split and partition are these -/
/-! ### computing spl and par -/
/-! ### digits -/
/-! ### words: x.split() -/
end TL
end 
namespace L2
open PySem PySem.Spec PyProof.Rows
section
variable {X : Cx} {pins : List (Addr × Obj)} {σ : St} {H : Hp} {s : Shared} {Q : VK}
end
section
variable {X : Cx}
/-! ### of a text alone -/
/-! ### of a text and a text -/
end
section
variable {X : Cx} {o e : Expr} {to te : TE}
end
end L2
namespace L2
open PySem PySem.Spec PyProof.Rows
section
variable {X : Cx}
end
/-! ### slices of a text -/
end L2
namespace Att
open PySem PySem.W PySem.Calls PyProof.Rows
/-! ### the script -/
/-! ### the attachment: holds_open's last premise (the goal 'hc' behind k_head) from a wpAny of the law's body -/
/-! ### rules over ANY heap (no ledger) from facts about the written part K: the library's own take a ledger (News) for what they write -/
section
variable {prog : Program} {w : World} {A : Around} {E : Value → Shared → Prop} {s : Shared} {K : Frag}
/-! the whole heap as the ledger: makes every rule that writes through a ledger a rule over any heap -/
end
end Att
namespace L2
open PySem PySem.Spec PyProof.Rows
end L2
namespace L2
open PySem PySem.Spec PyProof.Rows
end L2
/- THE LAST THEOREM (shape; LID, My.* are yours):
   My.Adr: a structure of the addresses that your layer names (classes, functions); My.Txt K t: a structure (Prop) of the equations over K;
   My.txt_mk : {K} {implicit addresses ..} (e1 : nsIn K mainGlobals "law" = some (some (.ref f))) (e2 : K.lookup f = some ⟨oc, od, .func (fnOf "law" "law" params body scope dV kV doc pm an cdv ct), sl⟩) (e3 : codeIn K cdv "law" = true) .. : ∃ t, My.Txt K t
set_option maxRecDepth 100000 in
set_option maxHeartbeats 0 in
theorem PySem.Challenge.cw_LID_holds : PySem.Challenge.rw_LID.Holds := by
  w_on; o_law; k_head; (case hw => w_witness2)
  k_fill
  refine L2.walk_of (l := PySem.Challenge.rw_LID) (n := 63) (k := 40) (x := "script") (CX := fun w => ..) (sp := fun _ => My.sp_law) rfl (by decide) rfl ⟨rfl, by decide, by decide⟩ (fun w h Y => PySem.W.kIn_of Y) ?F ?S ?C
  case F =>
    intro w mg fa h KX G hmg
    have T : ∃ t, My.Txt (L2.KOf KX) t := by
      dsimp only [L2.KOf]                          -- K must stand as «<heap const> w.params» for k_is
      refine' My.txt_mk ?e1 ?e2 ?e3 ..
      (case e1 => PySem.W.k_is)                    -- in the order: a name -> its address -> its object -> its parts
      (case e2 => PySem.W.k_is)
      ..
    obtain ⟨t, T⟩ := T
    have e0 := hmg.symm.trans (PySem.W.mg_of KX G T.law)
    cases e0                                       -- fa is the law's own address
    exact ⟨_, fun s u => .of_eq rfl, fun base kb nb => My.law_fn T kb nb⟩     -- if «.of_eq rfl» comes too early: refine' ⟨_, ?b, fun base kb nb => My.law_fn T kb nb⟩; exact fun s u => .of_eq rfl
  case S => exact fun w H a ns hl hO hS => ..
  case C => exact ..
(the tactic k_is has no namespace: write k_is) -/
/-! SHORT WORDS over the layer: a def of the text, its body, what a loop and a test want. -/
namespace L2
open PySem PySem.Spec PyProof.Rows
/-! ### the text by places -/
/-- the j-th statement of a class's body -/
def inClass (s : Stmt) (j : Nat) : Stmt := match s with
  | .ClassDef _ _ _ body _ _ _ _ _ _ _ => body.getD j (.Pass ⟨0, 0, 0, 0⟩)
  | _ => .Pass ⟨0, 0, 0, 0⟩
def defArgs (s : Stmt) : Arguments := match s with
  | .FunctionDef _ a _ _ _ _ _ _ _ _ => a
  | _ => { posonlyargs := [], args := [], vararg := none, kwonlyargs := [], kw_defaults := [], kwarg := none, defaults := [] }
def defBody (s : Stmt) : List Stmt := match s with
  | .FunctionDef _ _ b _ _ _ _ _ _ _ => b
  | _ => []
def defScope (s : Stmt) : Scope := match s with
  | .FunctionDef _ _ _ _ _ _ sc _ _ _ => sc
  | _ => { kind := .function, names := [], isGenerator := false, isCoroutine := false }
/-! ### no exception leaves a def -/
abbrev CX0 : CXT := fun _ _ _ _ _ _ => False
abbrev E0 : XK := fun _ _ _ => False
theorem pass0 {X : Cx} : Passes CX0 X E0 := fun _ _ _ _ _ _ _ h => h.elim
/-! ### a def (or method) of the text as it stands behind the top -/
structure Fun (K : PySem.W.Frag) (x qual : Str) (st : Stmt) (f : Addr) (fd : FuncData) : Prop where
  ex : ∃ (oc : Value) (od : Option Addr) (kV doc pm : Value) (an : Option Addr) (cdv ct : Value) (osl : Array (Option Value)),
    fd = PySem.W.fnOf x qual (defArgs st) (defBody st) (defScope st) .none kV doc pm an cdv ct ∧ K.lookup f = some ⟨oc, od, .func fd, osl⟩ ∧ PySem.W.codeIn K cdv qual = true
  kp : PySem.W.keepIn K (.ref f) = true
section
variable {P : Program} {w : World} {K : PySem.W.Frag} {mg : Str → Option Value} {base : Heap}
/-- THE RULE for a def: its body as a term of rules, and the reading of that term -/
theorem Fun.ok {x qual : Str} {st : Stmt} {f : Addr} {fd : FuncData} {N ps : List Str} {k : Nat} {sp : Sp} (F : Fun K x qual st f fd) (S : FnScope N ps (defScope st)) (len : ∀ vs H Q E, sp vs H Q E → vs.length = ps.length)
    (hbody : ∀ (cdv : Value) (A : Around) (outer : List Env) (s : Shared) (H : Hp) (vs : List V) (Q : VK) (E : XK), Room k (A.deeper (envOfC qual (defScope st) s.heap.objs.size f cdv)) → sp vs H Q E →
      ∃ t, PSs (cxOf CX0 P w K mg base N qual (defScope st) f cdv A outer s H E).nox (defBody st) t ∧ t { nx := fun _ H' => Q .non H', rt := Q } (start N vs) H) : FnOk P w K mg base CX0 (k + 1) f fd ps sp := by
  obtain ⟨oc, od, kV, doc, pm, an, cdv, ct, osl, rfl, lk, hcd⟩ := F.ex
  refine fn_of lk hcd S len fun A outer s H vs Q E hr hsp => ?_
  obtain ⟨t, h, q⟩ := hbody cdv A outer s H vs Q E hr hsp
  exact ⟨t, h.nox, q⟩
/-- how its arguments bind (no defaults): h is «fun _ _ _ _ _ _ us hl => match us, hl with | [_, _], _ => rfl», one _ a parameter -/
theorem Fun.binds {x qual : Str} {st : Stmt} {f : Addr} {fd : FuncData} {ps : List Str} (F : Fun K x qual st f fd)
    (h : ∀ (kV doc pm : Value) (an : Option Addr) (cdv ct : Value) (us : List Value), us.length = ps.length → bindArgs (PySem.W.fnOf x qual (defArgs st) (defBody st) (defScope st) .none kV doc pm an cdv ct) ⟨us, []⟩ = pure (ps.zip us)) : Binds K fd ps [] := by
  obtain ⟨oc, od, kV, doc, pm, an, cdv, ct, osl, rfl, lk, hcd⟩ := F.ex
  exact .all (h kV doc pm an cdv ct)
theorem fun_mk {x qual : Str} {st : Stmt} {f : Addr} {oc : Value} {od an : Option Addr} {osl : Array (Option Value)} {kV doc pm cdv ct : Value} (l : K.lookup f = some ⟨oc, od, .func (PySem.W.fnOf x qual (defArgs st) (defBody st) (defScope st) .none kV doc pm an cdv ct), osl⟩)
    (c : PySem.W.codeIn K cdv qual = true) (k : PySem.W.keepIn K (.ref f) = true) : Fun K x qual st f (PySem.W.fnOf x qual (defArgs st) (defBody st) (defScope st) .none kV doc pm an cdv ct) := ⟨⟨oc, od, kV, doc, pm, an, cdv, ct, osl, rfl, l, c⟩, k⟩
end
/-! ### expressions in short: the name that stands in the i-th slot -/
section
variable {X : Cx}
theorem pv (i : Nat) {x : Str} {pos : Pos} (hN : X.N[i]? = some x := by rfl) (hv : Vis X.env.scope x := by first | exact Or.inl rfl | exact Or.inr (Or.inl rfl) | exact Or.inr (Or.inr rfl)) (hd : (x == ("__debug__" : Str)) = false := by decide)
    (hcd : (x == ("__classdict__" : Str)) = false := by decide) : PE X (.Name x pos) (tVar i) := pe_var hN hv hd hcd
end
/-! ### tests -/
theorem iteF {A B : Prop} (h : B) : if false = true then A else B := by
  rw [if_neg Bool.false_ne_true]
  exact h
theorem iteT {A B : Prop} (h : A) : if true = true then A else B := by
  rw [if_pos rfl]
  exact h
theorem ite2 {c A B : Prop} [Decidable c] (h1 : c → A) (h2 : ¬ c → B) : if c then A else B := by
  by_cases h : c
  · rw [if_pos h]
    exact h1 h
  · rw [if_neg h]
    exact h2 h
/-! ### heaps -/
/-- all that was tracked is as it was -/
def Same (H H' : Hp) : Prop := ∀ b o, H b = some o → H' b = some o
theorem Same.refl (H : Hp) : Same H H := fun _ _ h => h
theorem Same.trans {H H1 H2 : Hp} (a : Same H H1) (b : Same H1 H2) : Same H H2 := fun c o h => b c o (a c o h)
theorem Same.free {H H' : Hp} (e : Same H H') {l : Addr} (h : H' l = Option.none) : H l = Option.none := by
  cases q : H l with
  | none => rfl
  | some o =>
    rw [e l o q] at h
    cases h
theorem Same.seq {K : PySem.W.Frag} {H H' : Hp} {a : Addr} {xs : List V} (e : Same H H') (h : SqL K H a xs) : SqL K H' a xs := by
  rcases h with (h | ⟨o, h⟩) | h
  · exact .inl (.inl (e _ _ h))
  · exact .inl (.inr ⟨o, e _ _ h⟩)
  · exact .inr h
/-! ### a dict's pairs: keys that differ -/
section
variable {κ : Type} [DecidableEq κ]
theorem nd_snoc : ∀ {l : List κ} {k : κ}, l.Nodup → ¬ k ∈ l → (l ++ [k]).Nodup
  | [], k, _, _ => by simp
  | a :: r, k, h, hk => by
    obtain ⟨h1, h2⟩ := List.nodup_cons.mp h
    show (a :: (r ++ [k])).Nodup
    refine List.nodup_cons.mpr ⟨fun m => ?_, nd_snoc h2 fun m => hk (List.mem_cons.mpr (Or.inr m))⟩
    rcases List.mem_append.mp m with q | q
    · exact h1 q
    · exact hk (List.mem_cons.mpr (Or.inl (List.mem_singleton.mp q).symm))
end
/-! ### lists -/
/-- a new instance and its __init__ leave all that was tracked as it was -/
theorem Same.made {H H1 : Hp} {x dx C : Addr} (nx : H x = Option.none) (nd : H dx = Option.none) (k : ∀ b o, (upd (upd H dx (.own x)) x (.ins C dx [])) b = some o → b ≠ x → H1 b = some o) : Same H H1 := fun b o e =>
  k b o (by rw [upd_ne (ne_of_none e nx), upd_ne (ne_of_none e nd)]; exact e) (ne_of_none e nx)
end L2
end
section
set_option Elab.async false
set_option linter.all false
set_option maxRecDepth 100000
namespace L2
open PySem PySem.Spec PyProof.Rows
open PySem.W (WData Codec OpenSpec Well WellAll ReadsW ReadsAllW)
/-! ### an answer as data -/
mutual
/-- x stands for the datum d, lists and tuples all the way -/
inductive Dw (K : PySem.W.Frag) (H : Hp) : V → WData → Prop
  | non : Dw K H .non .none
  | bl (b : Bool) : Dw K H (.bl b) (.bool b)
  | int (i : Int) : Dw K H (.int i) (.int i)
  | str (x : Str) : Dw K H (.str x) (.str x)
  | byt (b : Array UInt8) : Dw K H (.byt b) (.bytes b.toList)
  | lst {a : Addr} {xs : List V} {ds : List WData} : SqL K H a xs → DwAll K H xs ds → Dw K H (.ref a) (.list ds)
  | tup {a : Addr} {xs : List V} {ds : List WData} : SqT K H a xs → DwAll K H xs ds → Dw K H (.ref a) (.tuple ds)
inductive DwAll (K : PySem.W.Frag) (H : Hp) : List V → List WData → Prop
  | nil : DwAll K H [] []
  | cons {v : V} {vs : List V} {d : WData} {ds : List WData} : Dw K H v d → DwAll K H vs ds → DwAll K H (v :: vs) (d :: ds)
end
theorem dw_ints {K : PySem.W.Frag} {H : Hp} : ∀ ns : List Int, DwAll K H (ns.map V.int) (ns.map WData.int)
  | [] => .nil
  | n :: r => .cons (.int n) (dw_ints r)
theorem ints_dw {K : PySem.W.Frag} {H : Hp} : ∀ (ns : List Int) (xs : List V), DwAll K H xs (ns.map WData.int) → xs = ns.map V.int
  | [], xs, h => by
    cases h
    rfl
  | n :: r, xs, h => by
    cases h with
    | cons h1 h2 =>
      cases h1
      rw [ints_dw r _ h2] <;> rfl
section
variable {P : Program} {w : World} {K : PySem.W.Frag} {H : Hp} {h : Heap} {R : PySem.W.WRecords} {cl : Str → Option Addr}
theorem sqL_at {a : Addr} {xs : List V} (hok : HOk P w H h) (KX : K.In h) (q : SqL K H a xs) : ∃ (its : List Value) (o : Obj) (n : Nat), Vals xs its ∧ h.get? a = some o ∧ o.cls = .type "list" ∧ o.data = .seq its.toArray n := by
  rcases q with q | ⟨o, its, n, e, hc, _, hd, _, hv⟩
  · obtain ⟨_, its, n, hv, e⟩ := (show ObjOk P w H h a (.lst xs) from q.ok hok)
    exact ⟨its, _, n, hv, e, rfl, rfl⟩
  · exact ⟨its.toList, o, n, hv, KX _ _ e, hc, by simp [hd]⟩
theorem sqT_at {a : Addr} {xs : List V} (hok : HOk P w H h) (KX : K.In h) (q : SqT K H a xs) : ∃ (its : List Value) (o : Obj) (n : Nat), Vals xs its ∧ h.get? a = some o ∧ o.cls = .type "tuple" ∧ o.data = .seq its.toArray n := by
  rcases q with q | ⟨o, its, n, e, hc, hd, _, hv⟩
  · obtain ⟨_, its, hv, o, e, hc, n, hd⟩ := (show ObjOk P w H h a (.tup xs) from q.ok hok)
    exact ⟨its, o, n, hv, e, hc, hd⟩
  · exact ⟨its.toList, o, n, hv, KX _ _ e, hc, by simp [hd]⟩
mutual
theorem Dw.reads (hok : HOk P w H h) (KX : K.In h) : ∀ (d : WData) (v : V) (u : Value), Dw K H v d → RelV v u → ∃ as, ReadsW R cl h u d as
  | .none, _, _, x, r => by
    cases x
    cases r
    exact ⟨_, ReadsW.none⟩
  | .bool b, _, _, x, r => by
    cases x
    cases r
    exact ⟨_, ReadsW.bool b⟩
  | .int i, _, _, x, r => by
    cases x
    obtain ⟨t, rfl⟩ := r
    exact ⟨_, ReadsW.int i t⟩
  | .str s, _, _, x, r => by
    cases x
    obtain ⟨t, rfl⟩ := r
    exact ⟨_, ReadsW.str s t⟩
  | .bytes b, _, _, x, r => by
    cases x
    obtain ⟨t, rfl⟩ := r
    exact ⟨_, ReadsW.bytes _ t⟩
  | .list ds, _, _, x, r => by
    cases x with
    | lst hs ha =>
      cases r
      obtain ⟨its, o, n, rv, ho, hc, hd⟩ := sqL_at hok KX hs
      obtain ⟨as, hr⟩ := Dw.readsAll hok KX ds _ its ha rv
      exact ⟨_, ReadsW.list ho hc hd hr⟩
  | .tuple ds, _, _, x, r => by
    cases x with
    | tup hs ha =>
      cases r
      obtain ⟨its, o, n, rv, ho, hc, hd⟩ := sqT_at hok KX hs
      obtain ⟨as, hr⟩ := Dw.readsAll hok KX ds _ its ha rv
      exact ⟨_, ReadsW.tuple ho hc hd hr⟩
  | .float _, _, _, x, _ => by cases x
  | .dict _, _, _, x, _ => by cases x
  | .bytearray _, _, _, x, _ => by cases x
  | .set _, _, _, x, _ => by cases x
  | .frozenset _, _, _, x, _ => by cases x
  | .obj _ _, _, _, x, _ => by cases x
theorem Dw.readsAll (hok : HOk P w H h) (KX : K.In h) : ∀ (ds : List WData) (vs : List V) (us : List Value), DwAll K H vs ds → Vals vs us → ∃ as, ReadsAllW R cl h us ds as
  | [], _, _, x, r => by
    cases x
    cases r
    exact ⟨_, ReadsAllW.nil⟩
  | d :: ds, _, _, x, r => by
    cases x with
    | cons h1 h2 =>
      cases r with
      | cons r1 r2 =>
        obtain ⟨as, q1⟩ := Dw.reads hok KX d _ _ h1 r1
        obtain ⟨bs, q2⟩ := Dw.readsAll hok KX ds _ _ h2 r2
        exact ⟨_, ReadsAllW.cons q1 q2⟩
end
end
/-! ### the arguments -/
mutual
/-- data that a codec tells -/
def plW : WData → Bool
  | .none => true
  | .bool _ => true
  | .int _ => true
  | .str _ => true
  | .bytes _ => true
  | .list xs => plWs xs
  | .tuple xs => plWs xs
  | _ => false
def plWs : List WData → Bool
  | [] => true
  | x :: r => plW x && plWs r
end
theorem plWs_map {α : Type} {f : α → WData} (h : ∀ a, plW (f a) = true) : ∀ l : List α, plWs (l.map f) = true
  | [] => rfl
  | x :: r => by
    show (plW (f x) && plWs (r.map f)) = true
    rw [h x, plWs_map h r] <;> rfl
theorem pl_enc : ∀ (c : Codec) (a : c.denote), plW (c.enc a) = true
  | .unit, _ => rfl
  | .bool, _ => rfl
  | .int _ _, _ => rfl
  | .nat _ _, _ => rfl
  | .u8, _ => rfl
  | .bytes _ _, _ => rfl
  | .text _ _ _ _, _ => rfl
  | .list _ _ c, a => plWs_map (fun x => pl_enc c x) a
  | .pair c d, a => by
    show (plW (c.enc a.1) && (plW (d.enc a.2) && true)) = true
    rw [pl_enc c a.1, pl_enc d a.2] <;> rfl
  | .triple c d e, a => by
    show (plW (c.enc a.1) && (plW (d.enc a.2.1) && (plW (e.enc a.2.2) && true))) = true
    rw [pl_enc c a.1, pl_enc d a.2.1, pl_enc e a.2.2] <;> rfl
  | .option c, none => rfl
  | .option c, some x => pl_enc c x
theorem pl_encAll : ∀ (cs : List Codec) (a : Codec.denoteAll cs), plWs (Codec.encAll cs a) = true
  | [], _ => rfl
  | c :: cs, a => by
    show (plW (c.enc a.1) && plWs (Codec.encAll cs a.2)) = true
    rw [pl_enc c a.1, pl_encAll cs a.2] <;> rfl
theorem weight_mem : ∀ {xs : List WData} {d : WData}, d ∈ xs → d.weight ≤ WData.weightAll xs
  | [], d, h => absurd h (by simp)
  | x :: r, d, h => by
    show d.weight ≤ x.weight + 1 + WData.weightAll r
    rcases List.mem_cons.mp h with e | m
    · rw [e]
      omega
    · have z := weight_mem m
      omega
def toV : Value → V
  | .none => .non
  | .bool b => .bl b
  | .int i _ => .int i
  | .str x _ => .str x
  | .bytes b _ => .byt b
  | .ref a => .ref a
  | _ => .non
/-- a value of the arguments, its objects among A -/
def OkU (A : List Addr) : Value → Prop
  | .none => True
  | .bool _ => True
  | .int _ _ => True
  | .str _ _ => True
  | .bytes _ _ => True
  | .ref a => a ∈ A
  | _ => False
theorem OkU.mono {A B : List Addr} (h : ∀ a ∈ A, a ∈ B) : ∀ {u : Value}, OkU A u → OkU B u := fun {u} x => by
  cases u with
  | ref a => exact h a x
  | none => trivial
  | bool b => trivial
  | int i t => trivial
  | str s t => trivial
  | bytes b t => trivial
  | _ => exact False.elim x
theorem relV_toV {A : List Addr} {u : Value} (x : OkU A u) : RelV (toV u) u := by
  cases u with
  | ref a => rfl
  | none => rfl
  | bool b => rfl
  | int i t => exact ⟨t, rfl⟩
  | str s t => exact ⟨t, rfl⟩
  | bytes b t => exact ⟨t, rfl⟩
  | _ => exact False.elim x
theorem vals_toV {A : List Addr} : ∀ {vs : List Value}, (∀ u ∈ vs, OkU A u) → Vals (vs.map toV) vs
  | [], _ => .nil
  | u :: r, h => .cons (relV_toV (h u (List.mem_cons_self ..))) (vals_toV fun x hx => h x (List.mem_cons_of_mem _ hx))
/-- an object of the arguments -/
def ArgOb (h : Heap) (A : List Addr) (a : Addr) : Prop := ∃ vs : List Value, vs.length ≤ sizeLine ∧ (∀ u ∈ vs, OkU A u) ∧
  (h.get? a = some { cls := .type "list", data := .seq vs.toArray } ∨ h.get? a = some { cls := .type "tuple", data := .seq vs.toArray })
theorem ArgOb.mono {h : Heap} {A B : List Addr} {a : Addr} (k : ∀ a ∈ A, a ∈ B) (x : ArgOb h A a) : ArgOb h B a := by
  obtain ⟨vs, h1, h2, h3⟩ := x
  exact ⟨vs, h1, fun u hu => (h2 u hu).mono k, h3⟩
theorem wellAll_len {P : Params} {h : Heap} : ∀ {vs : List Value} {ds : List WData}, WellAll P h vs ds → vs.length = ds.length
  | _, _, .nil => rfl
  | _, _, .cons _ b => by
    show _ + 1 = _ + 1
    rw [wellAll_len b]
theorem well_list {P : Params} {h : Heap} {v : Value} {ds : List WData} (x : Well P h v (.list ds)) : ∃ (a : Addr) (vs : List Value), v = .ref a ∧ h.get? a = some { cls := .type "list", data := .seq vs.toArray } ∧ WellAll P h vs ds := by
  cases x with
  | list ho hall => exact ⟨_, _, rfl, ho, hall⟩
theorem well_tuple {P : Params} {h : Heap} {v : Value} {ds : List WData} (x : Well P h v (.tuple ds)) : ∃ (a : Addr) (vs : List Value), v = .ref a ∧ h.get? a = some { cls := .type "tuple", data := .seq vs.toArray } ∧ WellAll P h vs ds := by
  cases x with
  | tuple ho hall => exact ⟨_, _, rfl, ho, hall⟩
theorem well_cons {P : Params} {h : Heap} {us : List Value} {d : WData} {ds : List WData} (x : WellAll P h us (d :: ds)) : ∃ (v : Value) (vs : List Value), us = v :: vs ∧ Well P h v d ∧ WellAll P h vs ds := by
  cases x with
  | cons a b => exact ⟨_, _, rfl, a, b⟩
theorem line_of {n : Nat} (h : n ≤ 1048576) : n ≤ sizeLine := Nat.le_trans h (by decide)
section
variable {P : Params} {h : Heap}
mutual
theorem area_one : ∀ (d : WData) (v : Value), Well P h v d → plW d = true → d.weight ≤ 1048576 → ∃ A : List Addr, OkU A v ∧ ∀ a ∈ A, ArgOb h A a
  | .none, _, x, _, _ => by
    cases x
    exact ⟨[], trivial, fun a m => absurd m (by simp)⟩
  | .bool b, _, x, _, _ => by
    cases x
    exact ⟨[], trivial, fun a m => absurd m (by simp)⟩
  | .int i, _, x, _, _ => by
    cases x
    exact ⟨[], trivial, fun a m => absurd m (by simp)⟩
  | .str s, _, x, _, _ => by
    cases x
    exact ⟨[], trivial, fun a m => absurd m (by simp)⟩
  | .bytes b, _, x, _, _ => by
    cases x
    exact ⟨[], trivial, fun a m => absurd m (by simp)⟩
  | .list ds, _, x, p, z => by
    obtain ⟨a, vs, rfl, ho, hall⟩ := well_list x
    have z2 : WData.weightAll ds ≤ 1048576 := z
    obtain ⟨A, h1, h2⟩ := area_all ds _ hall p fun d hd => Nat.le_trans (weight_mem hd) z2
    have k : ∀ b ∈ A, b ∈ a :: A := fun b hb => List.mem_cons_of_mem _ hb
    refine ⟨a :: A, List.mem_cons_self .., fun b hb => ?_⟩
    rcases List.mem_cons.mp hb with e | m
    · rw [e]
      exact ⟨vs, line_of (by rw [wellAll_len hall]; exact Nat.le_trans (PySem.W.length_le_weightAllW ds) z2), fun u hu => (h1 u hu).mono k, .inl ho⟩
    · exact (h2 b m).mono k
  | .tuple ds, _, x, p, z => by
    obtain ⟨a, vs, rfl, ho, hall⟩ := well_tuple x
    have z2 : WData.weightAll ds ≤ 1048576 := z
    obtain ⟨A, h1, h2⟩ := area_all ds _ hall p fun d hd => Nat.le_trans (weight_mem hd) z2
    have k : ∀ b ∈ A, b ∈ a :: A := fun b hb => List.mem_cons_of_mem _ hb
    refine ⟨a :: A, List.mem_cons_self .., fun b hb => ?_⟩
    rcases List.mem_cons.mp hb with e | m
    · rw [e]
      exact ⟨vs, line_of (by rw [wellAll_len hall]; exact Nat.le_trans (PySem.W.length_le_weightAllW ds) z2), fun u hu => (h1 u hu).mono k, .inr ho⟩
    · exact (h2 b m).mono k
  | .float _, _, _, p, _ => Bool.noConfusion (show false = true from p)
  | .dict _, _, _, p, _ => Bool.noConfusion (show false = true from p)
  | .bytearray _, _, _, p, _ => Bool.noConfusion (show false = true from p)
  | .set _, _, _, p, _ => Bool.noConfusion (show false = true from p)
  | .frozenset _, _, _, p, _ => Bool.noConfusion (show false = true from p)
  | .obj _ _, _, _, p, _ => Bool.noConfusion (show false = true from p)
theorem area_all : ∀ (ds : List WData) (vs : List Value), WellAll P h vs ds → plWs ds = true → (∀ d ∈ ds, d.weight ≤ 1048576) → ∃ A : List Addr, (∀ u ∈ vs, OkU A u) ∧ ∀ a ∈ A, ArgOb h A a
  | [], _, x, _, _ => by
    cases x
    exact ⟨[], fun u m => absurd m (by simp), fun a m => absurd m (by simp)⟩
  | d :: ds, _, x, p, z => by
    obtain ⟨v, vs, rfl, x1, x2⟩ := well_cons x
    have q : plW d = true ∧ plWs ds = true := Bool.and_eq_true_iff.mp p
    obtain ⟨A, a1, a2⟩ := area_one d v x1 q.1 (z d (List.mem_cons_self ..))
    obtain ⟨B, b1, b2⟩ := area_all ds vs x2 q.2 fun e he => z e (List.mem_cons_of_mem _ he)
    have kA : ∀ b ∈ A, b ∈ A ++ B := fun b hb => List.mem_append.mpr (.inl hb)
    have kB : ∀ b ∈ B, b ∈ A ++ B := fun b hb => List.mem_append.mpr (.inr hb)
    refine ⟨A ++ B, fun u hu => ?_, fun b hb => ?_⟩
    · rcases List.mem_cons.mp hu with e | m
      · rw [e]
        exact a1.mono kA
      · exact (b1 u m).mono kB
    · rcases List.mem_append.mp hb with m | m
      · exact (a2 b m).mono kA
      · exact (b2 b m).mono kB
end
end
/-- what is tracked of an argument's object -/
def hoOf (o : Obj) : Option HO := match o.data with
  | .seq vs _ => if (o.cls == Value.type "list") = true then some (.frz o (.lst (vs.toList.map toV))) else some (.frz o (.tup (vs.toList.map toV)))
  | _ => none
def argH (K : PySem.W.Frag) (h : Heap) (A : List Addr) : Hp := fun b => if b ∈ A then (if (K.lookup b).isNone = true then (h.get? b).bind hoOf else none) else none
/-- nothing is tracked but what is known to the object -/
def OnlyF (H : Hp) : Prop := ∀ b, H b = none ∨ ∃ o u, H b = some (.frz o u)
theorem hoOf_lst (vs : List Value) : hoOf { cls := .type "list", data := .seq vs.toArray } = some (.frz { cls := .type "list", data := .seq vs.toArray } (.lst (vs.map toV))) := by
  show (if (Value.type "list" == Value.type "list") = true then some (HO.frz { cls := .type "list", data := .seq vs.toArray } (.lst (vs.toArray.toList.map toV))) else some (HO.frz { cls := .type "list", data := .seq vs.toArray } (.tup (vs.toArray.toList.map toV)))) = _
  rw [if_pos (beq_self_eq_true _)]
theorem hoOf_tup (vs : List Value) : hoOf { cls := .type "tuple", data := .seq vs.toArray } = some (.frz { cls := .type "tuple", data := .seq vs.toArray } (.tup (vs.map toV))) := by
  show (if (Value.type "tuple" == Value.type "list") = true then some (HO.frz { cls := .type "tuple", data := .seq vs.toArray } (.lst (vs.toArray.toList.map toV))) else some (HO.frz { cls := .type "tuple", data := .seq vs.toArray } (.tup (vs.toArray.toList.map toV)))) = _
  rw [if_neg (by decide)]
section
variable {P : Program} {w : World} {K : PySem.W.Frag} {h : Heap} {A : List Addr}
theorem argH_at {b : Addr} {o : Obj} (hb : b ∈ A) (hk : K.lookup b = none) (e : h.get? b = some o) : argH K h A b = hoOf o := by
  unfold argH
  rw [if_pos hb, hk, if_pos (show (none : Option Obj).isNone = true from rfl), e] <;> rfl
theorem of_argH {b : Addr} {u : HO} (q : argH K h A b = some u) : b ∈ A ∧ K.lookup b = none := by
  unfold argH at q
  by_cases hb : b ∈ A
  · rw [if_pos hb] at q
    cases hk : K.lookup b with
    | none => exact ⟨hb, rfl⟩
    | some o =>
      rw [hk, if_neg (by simp)] at q
      cases q
  · rw [if_neg hb] at q
    cases q
/-- what stands tracked -/
theorem argH_is (ar : ∀ a ∈ A, ArgOb h A a) {b : Addr} {u : HO} (q : argH K h A b = some u) : K.lookup b = none ∧ ∃ vs : List Value, vs.length ≤ sizeLine ∧ (∀ u ∈ vs, OkU A u) ∧
    ((h.get? b = some { cls := .type "list", data := .seq vs.toArray } ∧ u = .frz { cls := .type "list", data := .seq vs.toArray } (.lst (vs.map toV))) ∨
     (h.get? b = some { cls := .type "tuple", data := .seq vs.toArray } ∧ u = .frz { cls := .type "tuple", data := .seq vs.toArray } (.tup (vs.map toV)))) := by
  obtain ⟨hb, hk⟩ := of_argH q
  obtain ⟨vs, h1, h2, h3⟩ := ar b hb
  refine ⟨hk, vs, h1, h2, ?_⟩
  rcases h3 with e | e
  · rw [argH_at hb hk e, hoOf_lst] at q
    exact .inl ⟨e, (Option.some.inj q).symm⟩
  · rw [argH_at hb hk e, hoOf_tup] at q
    exact .inr ⟨e, (Option.some.inj q).symm⟩
theorem argH_only (ar : ∀ a ∈ A, ArgOb h A a) : OnlyF (argH K h A) := fun b => by
  cases q : argH K h A b with
  | none => exact .inl rfl
  | some u =>
    obtain ⟨_, vs, _, _, ⟨_, e⟩ | ⟨_, e⟩⟩ := argH_is ar q
    · exact .inr ⟨_, _, by rw [e]⟩
    · exact .inr ⟨_, _, by rw [e]⟩
theorem argH_ok (ar : ∀ a ∈ A, ArgOb h A a) : HOk P w (argH K h A) h := fun b u q => by
  obtain ⟨_, vs, h1, h2, ⟨e, rfl⟩ | ⟨e, rfl⟩⟩ := argH_is ar q
  · exact ⟨e, by rw [List.length_map]; exact h1, vs, _, vals_toV h2, e⟩
  · exact ⟨e, by rw [List.length_map]; exact h1, vs, vals_toV h2, _, e, rfl, _, rfl⟩
theorem seq_inj {c c' : Value} {vs us : List Value} (e : (some { cls := c, data := .seq vs.toArray } : Option Obj) = some { cls := c', data := .seq us.toArray }) : c = c' ∧ vs = us := by
  have e1 := Option.some.inj e
  have e2 : c = c' := congrArg Obj.cls e1
  have e3 : Data.seq vs.toArray = Data.seq us.toArray := congrArg Obj.data e1
  injection e3 with e4
  refine ⟨e2, ?_⟩
  have e5 := congrArg Array.toList e4
  simpa using e5
/-- a list argument -/
theorem argL (KX : K.In h) (ar : ∀ a ∈ A, ArgOb h A a) {a : Addr} {vs : List Value} (ha : a ∈ A) (e : h.get? a = some { cls := .type "list", data := .seq vs.toArray }) : (∀ u ∈ vs, OkU A u) ∧ SqL K (argH K h A) a (vs.map toV) := by
  obtain ⟨us, h1, h2, h3⟩ := ar a ha
  have hu : us = vs := by
    rcases h3 with q | q
    · rw [e] at q
      exact (seq_inj q).2.symm
    · rw [e] at q
      exact absurd (Value.type.inj (seq_inj q).1) (by decide)
  subst hu
  refine ⟨h2, ?_⟩
  cases hk : K.lookup a with
  | none => exact .inl (.inr ⟨_, by rw [argH_at ha hk e, hoOf_lst]⟩)
  | some o =>
    have e2 := KX a o hk
    rw [e] at e2
    obtain rfl := Option.some.inj e2
    exact .inr ⟨_, us.toArray, _, hk, rfl, rfl, rfl, by rw [List.size_toArray]; exact h1, by simpa using vals_toV h2⟩
theorem argT (KX : K.In h) (ar : ∀ a ∈ A, ArgOb h A a) {a : Addr} {vs : List Value} (ha : a ∈ A) (e : h.get? a = some { cls := .type "tuple", data := .seq vs.toArray }) : (∀ u ∈ vs, OkU A u) ∧ SqT K (argH K h A) a (vs.map toV) := by
  obtain ⟨us, h1, h2, h3⟩ := ar a ha
  have hu : us = vs := by
    rcases h3 with q | q
    · rw [e] at q
      exact absurd (Value.type.inj (seq_inj q).1) (by decide)
    · rw [e] at q
      exact (seq_inj q).2.symm
  subst hu
  refine ⟨h2, ?_⟩
  cases hk : K.lookup a with
  | none => exact .inl (.inr ⟨_, by rw [argH_at ha hk e, hoOf_tup]⟩)
  | some o =>
    have e2 := KX a o hk
    rw [e] at e2
    obtain rfl := Option.some.inj e2
    exact .inr ⟨_, us.toArray, _, hk, rfl, rfl, by rw [List.size_toArray]; exact h1, by simpa using vals_toV h2⟩
mutual
theorem dw_one {Pm : Params} (KX : K.In h) (ar : ∀ a ∈ A, ArgOb h A a) : ∀ (d : WData) (v : Value), Well Pm h v d → plW d = true → OkU A v → Dw K (argH K h A) (toV v) d
  | .none, _, x, _, _ => by
    cases x
    exact .non
  | .bool b, _, x, _, _ => by
    cases x
    exact .bl b
  | .int i, _, x, _, _ => by
    cases x
    exact .int i
  | .str s, _, x, _, _ => by
    cases x
    exact .str s
  | .bytes b, _, x, _, _ => by
    cases x
    have z := Dw.byt (K := K) (H := argH K h A) b.toArray
    exact z
  | .list ds, _, x, p, hu => by
    obtain ⟨a, vs, rfl, ho, hall⟩ := well_list x
    obtain ⟨h2, hs⟩ := argL KX ar hu ho
    exact .lst hs (dw_all KX ar ds _ hall p h2)
  | .tuple ds, _, x, p, hu => by
    obtain ⟨a, vs, rfl, ho, hall⟩ := well_tuple x
    obtain ⟨h2, hs⟩ := argT KX ar hu ho
    exact .tup hs (dw_all KX ar ds _ hall p h2)
  | .float _, _, _, p, _ => Bool.noConfusion (show false = true from p)
  | .dict _, _, _, p, _ => Bool.noConfusion (show false = true from p)
  | .bytearray _, _, _, p, _ => Bool.noConfusion (show false = true from p)
  | .set _, _, _, p, _ => Bool.noConfusion (show false = true from p)
  | .frozenset _, _, _, p, _ => Bool.noConfusion (show false = true from p)
  | .obj _ _, _, _, p, _ => Bool.noConfusion (show false = true from p)
theorem dw_all {Pm : Params} (KX : K.In h) (ar : ∀ a ∈ A, ArgOb h A a) : ∀ (ds : List WData) (vs : List Value), WellAll Pm h vs ds → plWs ds = true → (∀ u ∈ vs, OkU A u) → DwAll K (argH K h A) (vs.map toV) ds
  | [], _, x, _, _ => by
    cases x
    exact .nil
  | d :: ds, _, x, p, hu => by
    obtain ⟨v, vs, rfl, x1, x2⟩ := well_cons x
    have q : plW d = true ∧ plWs ds = true := Bool.and_eq_true_iff.mp p
    exact .cons (dw_one KX ar d v x1 q.1 (hu _ (List.mem_cons_self ..))) (dw_all KX ar ds vs x2 q.2 fun u m => hu u (List.mem_cons_of_mem _ m))
end
end
/-! ### the call -/
theorem spec_call {P : Program} {w : World} {K : PySem.W.Frag} {mg mb : Str → Option Value} {CX : CXT} {k : Nat} {fa : Addr} {fd : FuncData} {ps : List Str} {sp : Sp} {s₁ : Shared} {vals : List Value} {ds : List WData} {R : PySem.W.WRecords} {cl : Str → Option Addr} {d0 : WData}
    (KX : K.In s₁.heap) (hns : s₁.heap.Ns mainGlobals mg) (hb : s₁.heap.Ns builtinsNs mb) (hbb : ∀ x : Str, x ≠ "__name__" → mb x = bootBuiltins x) (hlim : s₁.heap.NoLimit) (hg : s₁.gens = #[])
    (hwl : WellAll w.params s₁.heap vals ds) (hpl : plWs ds = true) (hwt : ∀ d ∈ ds, d.weight ≤ 1048576) (hr : Room k callerA)
    (F : ∀ base : Heap, K.In base → base.Ns mainGlobals mg → FnOk P w K mg base CX k fa fd ps sp) (hbind : ∀ (s : Shared) (us : List Value), us.length = ps.length → BindsTo s fd ⟨us, []⟩ (ps.zip us)) (hlen : ds.length = ps.length)
    (hsp : ∀ (H : Hp) (xs : List V), OnlyF H → DwAll K H xs ds → sp xs H (fun v H' => Dw K H' v d0) fun _ _ _ => False)
    (hCX : ∀ H e s', CX [] H s₁ (fun _ _ _ => False) e s' → False) :
    codeAny (model P w) callerA (.call (.ref fa) ⟨vals, []⟩) (fun r s' => ∃ u as, r = .ok (.ret u) ∧ ReadsW R cl s'.heap u d0 as ∧ OldK s₁.heap s'.heap ∧ s'.os = s₁.os ∧ AllBare s'.gens) s₁ := by
  obtain ⟨A, ho, ar⟩ := area_all ds vals hwl hpl hwt
  have hO : OnlyF (argH K s₁.heap A) := argH_only ar
  have hok : HOk P w (argH K s₁.heap A) s₁.heap := argH_ok ar
  have hS := dw_all KX ar ds vals hwl hpl ho
  have hV := vals_toV ho
  have hK : ∀ b u, argH K s₁.heap A b = some u → K.lookup b = none := fun b u q => (argH_is ar q).1
  have noA : ∀ {b : Addr} {o : Obj} {es : Array DictEntry} {ep : Nat}, s₁.heap.get? b = some o → o.data = .dict es ep → argH K s₁.heap A b = none := fun {b o es ep} e d => by
    cases q : argH K s₁.heap A b with
    | none => rfl
    | some u =>
      obtain ⟨_, vs, _, _, ⟨e2, _⟩ | ⟨e2, _⟩⟩ := argH_is ar q
      · rw [e2] at e
        cases e
        have d' : Data.seq vs.toArray _ = Data.dict es ep := d
        cases d'
      · rw [e2] at e
        cases e
        have d' : Data.seq vs.toArray _ = Data.dict es ep := d
        cases d'
  generalize argH K s₁.heap A = H at hO hok hS hK noA
  have base_of : ∀ {b : Addr} {o : Obj}, s₁.heap.get? b = some o → H b = none → (hidT s₁.heap H).get? b = some o := fun e n => hidT_get e n
  have nsK : ∀ {b : Addr} {m : Str → Option Value}, s₁.heap.Ns b m → (hidT s₁.heap H).Ns b m := fun {b m} ⟨o, es, ep, e, d, r⟩ => ⟨o, es, ep, base_of e (noA e d), d, r⟩
  have nK : ∀ b o, K.lookup b = some o → H b = none := fun b o e => by
    cases q : H b with
    | none => rfl
    | some u =>
      rw [hK b u q] at e
      cases e
  have hKb : K.In (hidT s₁.heap H) := fun b o e => base_of (KX b o e) (nK b o e)
  have hM : Mod K mg (hidT s₁.heap H) := ⟨hKb, nsK hns, ⟨mb, nsK hb, hbb⟩, let ⟨mc, h1, h2⟩ := hlim; ⟨mc, nsK h1, h2⟩⟩
  have e0 : Env0 P w K mg (hidT s₁.heap H) callerA [] s₁ H := ⟨rfl, hM, fun b o e => of_hidT e, Nat.le_of_eq (hidT_size _ _), trivial, fun b hb => absurd (show b ∈ ([] : List Addr) from hb) (by simp), hok, .of_eq hg⟩
  have hl : vals.length = ps.length := by rw [wellAll_len hwl]; exact hlen
  refine codeAny_mono ((F _ hKb (nsK hns)).run callerA [] s₁ H ⟨vals, []⟩ vals (vals.map toV) _ _ hr e0 (hbind s₁ vals hl) hV (hsp H _ hO hS)) fun r s' x => ?_
  cases r with
  | error e => exact (hCX H e s' x).elim
  | ok fl =>
    cases fl with
    | next => exact False.elim x
    | brk => exact False.elim x
    | cont => exact False.elim x
    | ret u =>
      obtain ⟨v, H', os, bare, un, hok', r', q⟩ := x
      have kept : ∀ b o, s₁.heap.get? b = some o → s'.heap.get? b = some o := fun b o e => by
        cases q2 : H b with
        | none => exact un.keep b o e q2 (by intro z; exact absurd (show b ∈ ([] : List Addr) from z) (by simp)) (by simp)
        | some u2 =>
          rcases hO b with z | ⟨ob, u3, z⟩
          · rw [q2] at z
            cases z
          · have z2 := un.frzs b ob _ z
            obtain ⟨e1, _⟩ := hok b _ z
            obtain ⟨e2, _⟩ := hok' b _ z2
            rw [e] at e1
            cases e1
            exact e2
      have KX' : K.In s'.heap := fun b o e => kept b o (KX b o e)
      obtain ⟨as, hrd⟩ := Dw.reads (R := R) (cl := cl) hok' KX' d0 v u q r'
      exact ⟨u, as, rfl, hrd, OldK.of_keep kept, os, bare⟩
/-! ### the row -/
theorem layable_weight {ds : List WData} (h : WData.layableAll ds = true) : ∀ d ∈ ds, d.weight ≤ 1048576 := fun d hd =>
  (PySem.W.layableW_iff.mp (List.all_eq_true.mp h d hd)).2.2
theorem encAll_len : ∀ (cs : List Codec) (a : Codec.denoteAll cs), (Codec.encAll cs a).length = cs.length
  | [], _ => rfl
  | c :: cs, a => by
    show (Codec.encAll cs a.2).length + 1 = cs.length + 1
    rw [encAll_len cs a.2]
/-- the goal that k_headS leaves (case hc), from the promise of the row's def: whatever the arguments that the codecs let and the row asks for, the def gives what stands for enc (f ..) -/
theorem walk_spec {r : OpenSpec} {k : Nat} {q : Program} {loose : List Str} {XP : (Str → Option Value) → Heap → Prop} {YP : World → Heap → Prop} {d : DefRec} {K : Params → PySem.W.Frag} {CX : World → CXT} {ps : List Str} {sp : World → Sp}
    (hwell : r.wellSaid = true) (hdf : d.params.defaults = []) (hlen : r.args.length = ps.length) (hr : Room k callerA)
    (hY : ∀ (w : World) (h : Heap), YP w h → (K w.params).In h)
    (F : ∀ (w : World) (mg : Str → Option Value) (fa : Addr) (h : Heap), YP w h → (K w.params).In h → h.Ns mainGlobals mg → mg d.name = some (.ref fa) →
      ∃ fd : FuncData, (∀ (s : Shared) (us : List Value), us.length = ps.length → BindsTo s fd ⟨us, []⟩ (ps.zip us)) ∧
        ∀ base : Heap, (K w.params).In base → base.Ns mainGlobals mg → FnOk r.prog w (K w.params) mg base (CX w) k fa fd ps (sp w))
    (hsp : ∀ (w : World) (H : Hp) (xs : List V) (a : Codec.denoteAll r.args), OnlyF H → Codec.withinAll r.args a = true → Codec.app r.args r.asked a = true → DwAll (K w.params) H xs (Codec.encAll r.args a) →
      sp w xs H (fun v H' => Dw (K w.params) H' v (r.ret.enc (Codec.app r.args r.f a))) fun _ _ _ => False)
    (hCX : ∀ (w : World) (H : Hp) (s : Shared) (e : Value) (s' : Shared), CX w [] H s (fun _ _ _ => False) e s' → False) :
    PySem.W.WalkOS q loose XP YP r d [] (fun f vs => PySem.call f vs) := by
  intro w s_0 s₁ mg mb G Y fa o pm cd doc dV kV ho hd hcd hD hmg hg args vals as hpre hlay hrd hwl hlo
  obtain ⟨a, e1, e2⟩ := PySem.W.os_pre_some hpre
  obtain ⟨e3, hwi⟩ := Codec.encAll_of_decAll r.args args a e1
  subst e3
  have KX := hY w _ Y
  obtain ⟨fd, hb, hF⟩ := F w mg fa _ Y KX G.T.g hmg
  refine PySem.W.enter_call (codeAny_mono (spec_call (R := []) (cl := classAt s_0.heap) (d0 := r.ret.enc (Codec.app r.args r.f a)) KX G.T.g G.T.b G.T.builtins G.T.nolimit hg hwl (pl_encAll _ _) (layable_weight hlay) hr hF hb (by rw [encAll_len]; exact hlen)
    (fun H xs hO hS => hsp w H xs a hO hwi e2 hS) fun H e s' => hCX w H s₁ e s') fun r' s' hq => ?_)
  obtain ⟨u, as', rfl, h1, h2, h3, h4⟩ := hq
  exact ⟨.inl ⟨u, _, as', rfl, fun _ => rfl, h1, (OpenSpec.post_iff hwell hwi _ _).mpr rfl, fun z => Bool.noConfusion (show false = true from z)⟩, h2, h3, h4⟩
/-- the same where the promise hangs on the written part alone -/
theorem walk_specK {r : OpenSpec} {k : Nat} {q : Program} {loose : List Str} {XP : (Str → Option Value) → Heap → Prop} {YP : World → Heap → Prop} {d : DefRec} {K : Params → PySem.W.Frag} {CX : CXT} {ps : List Str} {sp : PySem.W.Frag → Sp}
    (hwell : r.wellSaid = true) (hdf : d.params.defaults = []) (hlen : r.args.length = ps.length) (hr : Room k callerA)
    (hY : ∀ (w : World) (h : Heap), YP w h → (K w.params).In h)
    (F : ∀ (w : World) (mg : Str → Option Value) (fa : Addr) (h : Heap), YP w h → (K w.params).In h → h.Ns mainGlobals mg → mg d.name = some (.ref fa) →
      ∃ fd : FuncData, (∀ (s : Shared) (us : List Value), us.length = ps.length → BindsTo s fd ⟨us, []⟩ (ps.zip us)) ∧
        ∀ base : Heap, (K w.params).In base → base.Ns mainGlobals mg → FnOk r.prog w (K w.params) mg base CX k fa fd ps (sp (K w.params)))
    (hsp : ∀ (K : PySem.W.Frag) (H : Hp) (xs : List V) (a : Codec.denoteAll r.args), OnlyF H → Codec.withinAll r.args a = true → Codec.app r.args r.asked a = true → DwAll K H xs (Codec.encAll r.args a) →
      sp K xs H (fun v H' => Dw K H' v (r.ret.enc (Codec.app r.args r.f a))) fun _ _ _ => False)
    (hCX : ∀ (H : Hp) (s : Shared) (e : Value) (s' : Shared), CX [] H s (fun _ _ _ => False) e s' → False) :
    PySem.W.WalkOS q loose XP YP r d [] (fun f vs => PySem.call f vs) :=
  walk_spec (K := K) (CX := fun _ => CX) (sp := fun w => sp (K w.params)) hwell hdf hlen hr hY F (fun w H xs a h1 h2 h3 h4 => hsp (K w.params) H xs a h1 h2 h3 h4) fun _ H s e s' => hCX H s e s'
end L2
end
section
set_option maxRecDepth 100000
set_option Elab.async false
namespace PySem
namespace XL
/-- the new exception and its tuple -/
abbrev excNew (C t : Addr) : Obj := { cls := .ref C, data := .fields #[.ref t, .none, .none, .none, .bool false, .none] }
abbrev tupNew (rest : List Value) : Obj := { cls := .type "tuple", data := .seq rest.toArray }
def InitB (x : Addr) (R : Result → Shared → Prop) (r : Result) (s' : Shared) : Prop := match r with
  | .ok (.ret v) => v = .none ∧ R (.ok (.ret (.ref x))) s'
  | .ok _ => False
  | .error e => R (.error e) s'
section
variable {prog : Program} {w : World} {A : Around} {E : Value → Shared → Prop} {h : Heap} {g : Array GenState} {d : Drawn} {t : Nat} {os : OsState}
variable {nm q : Str} {C N : Addr} {bs bm : List Value} {hdct : Bool} {sn : List Str} {sub : List Value} {ab : Bool} {col : Option Bool} {dd : Option Addr} {k0 k1 k2 k3 k5 : Option Value} {B newId initId : String}
theorem type_call_init (F : ExcBaseFacts B newId initId bm) {mN : Str → Option Value} {rest : List Value} {fI : Addr} {oF : Obj} {Q : Fin → Shared → Prop}
    (hC : h.get? C = some (excClassObj nm q C N bs bm hdct sn sub ab col dd k0 k1 k2 k3 k5 newId)) (hn : h.Ns N mN) (hni : mN "__init__" = some (.ref fI)) (hf : h.get? fI = some oF) (hft : oF.cls = .type "function")
    (hq : codeAny (model prog w) A (.call (.ref fI) ⟨.ref (h.objs.size + 1) :: rest, []⟩) (fun r s' => match r with
      | .ok (.ret v) => v = .none ∧ Q (.done (.ret (.ref (h.objs.size + 1)))) s'
      | .ok _ => False
      | .error e => E e s') ⟨(h.push (tupNew rest)).push (excNew C h.objs.size), g, d, t, os⟩) (hrest : rest.length ≤ sizeLine := by size_fits) :
    wpAny (model prog w) A (Builtin.«type.__call__» ⟨.ref C :: rest, []⟩) Q E ⟨h, g, d, t, os⟩ := by
  repeat (first | with_reducible refine wpAny_loadPart_at hC ?_ | with_reducible refine wpAny_madeBy_exc hC ?_ | wp_step)
  refine codeAny_call_builtin_code (Code.quiet_builtin _ F.quiet) (wpAny_check_new_sub F hC ?_)
  refine codeAny_exc_new_sub F hC ?_ hrest
  show wpAny _ _ _ _ _ _
  have hC₁ := Heap.get?_push_of_some (excNew C h.objs.size) (Heap.get?_push_of_some (tupNew rest) hC)
  have hF₁ := Heap.get?_push_of_some (excNew C h.objs.size) (Heap.get?_push_of_some (tupNew rest) hf)
  have hn₁ : ((h.push (tupNew rest)).push (excNew C h.objs.size)).Ns N mN :=
    let ⟨o, es, ep, e, r⟩ := hn; ⟨o, es, ep, Heap.get?_push_of_some _ (Heap.get?_push_of_some _ e), r⟩
  have hget : ((h.push (tupNew rest)).push (excNew C h.objs.size)).get? (h.objs.size + 1) = some (excNew C h.objs.size) := by heap_get
  have hcC : (Value.ref C :: bm).contains (.ref C) = true := by simp
  unfold isInstance
  repeat (first | with_reducible refine wpAny_loadPart_at hget ?_ | (with_reducible refine wpAny_isSubtype_exc hC₁ ?_; rw [hcC]) | wp_step)
  show wpAny _ _ (typeLookup (.ref C) _) _ _ _
  refine wpAny_typeLookup_exc hC₁ hn₁ F.mroIs F.init.lookup ?_
  rw [hni]
  refine wpAny_holding (wpAny_bind ?_)
  unfold bindSpecial typeOf
  repeat (first | (with_reducible refine wpAny_loadPart_at hF₁ ?_; rw [hft]) | wp_step)
  refine codeAny_mono hq fun r s' z => ?_
  rcases r with e | (_ | v | _ | _) <;> first | exact z | exact z.elim | skip
  all_goals (obtain ⟨rfl, z⟩ := z; exact wpAny_pure (wpAny_pure z))
theorem call_exc_init (F : ExcBaseFacts B newId initId bm) {mN : Str → Option Value} {rest : List Value} {fI : Addr} {oF : Obj} {R : Result → Shared → Prop}
    (hC : h.get? C = some (excClassObj nm q C N bs bm hdct sn sub ab col dd k0 k1 k2 k3 k5 newId)) (hn : h.Ns N mN) (hni : mN "__init__" = some (.ref fI)) (hf : h.get? fI = some oF) (hft : oF.cls = .type "function")
    (hq : codeAny (model prog w) (A.under (.builtin "type.__call__" ⟨.ref C :: rest, []⟩)) (.call (.ref fI) ⟨.ref (h.objs.size + 1) :: rest, []⟩) (InitB (h.objs.size + 1) R) ⟨(h.push (tupNew rest)).push (excNew C h.objs.size), g, d, t, os⟩) (hrest : rest.length ≤ sizeLine := by size_fits) :
    codeAny (model prog w) A (.call (.ref C) ⟨rest, []⟩) R ⟨h, g, d, t, os⟩ := by
  have f1 := tc_lookup
  have f2 := tc_bind (.ref C)
  have hT : (⟨h, g, d, t, os⟩ : Shared).TypeIs (.ref C) "type" := ⟨_, hC, rfl⟩
  refine codeAny_of_tree ?_
  show wpAny _ _ (callAny (.ref C) _) _ _ _
  repeat (any_goals (first | assumption | with_reducible refine wpAny_loadPart_at hC ?_ | wp_step))
  refine ⟨rfl, ?_⟩
  refine codeAny_call_builtin_at (Code.quiet_builtin _ (by decide +kernel)) entry_typeCall (wpAny_check_type_call_sub hC (type_call_init (hrest := hrest) F hC hn hni hf hft (codeAny_mono hq fun r s' z => ?_)))
  rcases r with e | (_ | v | _ | _) <;> exact z
end
section
variable {M : Model} {A : Around} {E : Value → Shared → Prop} {env : Env}
variable {nm q : Str} {C N : Addr} {bs bm : List Value} {hdct : Bool} {sn : List Str} {sub : List Value} {ab : Bool} {col : Option Bool} {dd : Option Addr} {k0 k1 k2 k3 k5 : Option Value} {newId : String}
/-- raise of an instance that has no traceback yet -/
theorem raiseStmt_inst {s : Shared} {x : Sem Value} {Q : Flow → Shared → Prop} (hbase : bm.contains (.type "BaseException") = true) (hh : A.handled = none)
    (h : wpAny M A x (fun v s₁ => ∃ e oe vs, v = .ref e ∧ s₁.heap.get? C = some (excClassObj nm q C N bs bm hdct sn sub ab col dd k0 k1 k2 k3 k5 newId) ∧
      s₁.heap.get? e = some oe ∧ oe.cls = .ref C ∧ oe.data = .fields vs ∧ vs[1]? = some .none ∧ E (.ref e) s₁) E s) :
    wpAny M A (raiseStmt env (some x) none) Q E s := by
  have hcB : (Value.ref C :: bm).contains (.type "BaseException") = true := by rw [List.contains_cons, hbase, Bool.or_true]
  unfold raiseStmt
  refine wpAny_bind (wpAny_mono h (fun v s₁ h₁ => ?_) fun _ _ x => x)
  obtain ⟨e, oe, vs, rfl, hC, he, hcls, hd, h1, hE⟩ := h₁
  obtain ⟨hp, g, d, tk, os⟩ := s₁
  obtain ⟨oc, od, odt, osl⟩ := oe
  obtain rfl : oc = .ref C := hcls
  obtain rfl : odt = .fields vs := hd
  repeat (first | with_reducible refine wpAny_loadPart_at he ?_ | with_reducible refine wpAny_loadPart_at hC ?_ | (with_reducible refine wpAny_isSubtype_exc hC ?_; rw [hcB]) | wp_step)
  rw [h1]
  refine wpAny_pure ?_
  rw [if_neg (by decide)]
  exact wpAny_pure (wpAny_raiseNew_none hh hE)
end
section
variable {prog : Program} {w : World} {A : Around} {E : Value → Shared → Prop} {h : Heap} {g : Array GenState} {d : Drawn} {t : Nat} {os : OsState}
variable {nm q : Str} {C N x : Addr} {bs bm : List Value} {sn : List Str} {sub : List Value} {ab : Bool} {col : Option Bool} {dd : Option Addr} {k0 k1 k2 k3 k5 : Option Value} {B newId initId : String}
  {mN mA : Str → Option Value} {name : Str} {v : Value}
theorem load_entry {tk : Tok} {Q : Fin → Shared → Prop} (FB : ExcAttrBase B bm)
    (hC : h.get? C = some (excClassObj nm q C N bs bm true sn sub ab col dd k0 k1 k2 k3 k5 newId)) (hn : h.Ns N mN) (hna : mN name = none)
    (hB : typeLookup (.type B) name = pure none) (I : h.Inst x C mA) (hv : mA name = some v) (hq : Q (.done (.ret v)) ⟨h, g, d, t, os⟩) :
    wpAny (model prog w) A (Builtin.«object.__getattribute__» ⟨[.ref x, .str name tk], []⟩) Q E ⟨h, g, d, t, os⟩ := by
  obtain ⟨o, hx, hc, hnc, hd⟩ := I
  rcases hd with ⟨_, hmA⟩ | ⟨dx, hdx, hne, hns⟩
  · rw [hmA name] at hv; cases hv
  unfold Builtin.«object.__getattribute__»
  repeat (first | (with_reducible refine wpAny_loadPart_at hx ?_; rw [hc]) | (with_reducible refine wpAny_typeLookup_exc hC hn FB.mro hB ?_; rw [hna]) | wp_step)
  split
  · rename_i c hcd
    exact absurd hcd (hnc c)
  unfold instanceDict
  repeat (first | (with_reducible refine wpAny_loadPart_at hx ?_; rw [hc]) | with_reducible refine wpAny_loadPart_at hC ?_ | wp_step)
  rw [hdx]
  repeat (first | (with_reducible refine wpAny_nsGet hns.ns ?_; rw [hv]) | wp_step)
  exact hq
theorem check_ga {M : Model} {nameV : Value} {Q : Unit → Shared → Prop} {o : Obj} (FB : ExcAttrBase B bm) (hC : h.get? C = some (excClassObj nm q C N bs bm true sn sub ab col dd k0 k1 k2 k3 k5 newId))
    (hx : h.get? x = some o) (hc : o.cls = .ref C) (hq : Q () ⟨h, g, d, t, os⟩) : wpAny M A (checkBuiltinCall "BaseException.__getattribute__" ⟨[.ref x, nameV], []⟩) Q E ⟨h, g, d, t, os⟩ := by
  have hk : builtinKind "BaseException.__getattribute__" = some .slot := by decide +kernel
  have hsplit : splitId "BaseException.__getattribute__" = some ("BaseException", "__getattribute__") := by decide +kernel
  have hcB : (Value.ref C :: bm).contains (.type "BaseException") = true := by rw [List.contains_cons, FB.hasBase]; rfl
  have ha := F.args_bexc_ga (.ref x) nameV
  simp only [checkBuiltinCall, hk, hsplit]
  refine wpAny_bind ?_
  · unfold isInstance
    repeat (first | (with_reducible refine wpAny_loadPart_at hx ?_; rw [hc]) | (with_reducible refine wpAny_isSubtype_exc hC ?_; rw [hcB]) | wp_step)
    exact hq
theorem load_call {tk : Tok} {R : Result → Shared → Prop} (FB : ExcAttrBase B bm)
    (hC : h.get? C = some (excClassObj nm q C N bs bm true sn sub ab col dd k0 k1 k2 k3 k5 newId)) (hn : h.Ns N mN) (hna : mN name = none)
    (hB : typeLookup (.type B) name = pure none) (I : h.Inst x C mA) (hv : mA name = some v) (hq : R (.ok (.ret v)) ⟨h, g, d, t, os⟩) :
    codeAny (model prog w) A (.call (.builtin "BaseException.__getattribute__") ⟨[.ref x, .str name tk], []⟩) R ⟨h, g, d, t, os⟩ := by
  obtain ⟨o, hx, hc, _⟩ := id I
  exact codeAny_call_builtin FB.ga.plain F.entry_bexc_ga (check_ga FB hC hx hc (load_entry FB hC hn hna hB I hv hq))
theorem load_by {tk : Tok} {fill expr : Bool} {Q : Value → Shared → Prop} (FB : ExcAttrBase B bm)
    (hC : h.get? C = some (excClassObj nm q C N bs bm true sn sub ab col dd k0 k1 k2 k3 k5 newId)) (hn : h.Ns N mN) (hng : mN "__getattribute__" = none) (hnh : mN "__getattr__" = none) (hna : mN name = none)
    (hB : typeLookup (.type B) name = pure none) (I : h.Inst x C mA) (hv : mA name = some v) (hh : handedOut v = pure v) (hq : Q v ⟨h, g, d, t, os⟩) :
    wpAny (model prog w) A (getAttrBy (.ref x) (.str name tk) fill expr) Q E ⟨h, g, d, t, os⟩ := by
  obtain ⟨o, hx, hc, _⟩ := id I
  have f3 := FB.ga.bind (.ref x)
  have hx0 : (expr && onTheHeap (Value.builtin "BaseException.__getattribute__")) = false := by cases expr <;> rfl
  have hx2 : (Value.builtin "BaseException.__getattribute__" == Value.builtin "object.__getattribute__") = false := by decide +kernel
  have hx1 : (onTheHeap (Value.ref C) && Value.builtin "BaseException.__getattribute__" == Value.builtin "object.__getattribute__") = false := by rw [hx2]; rfl
  repeat (any_goals (first | assumption | (with_reducible refine wpAny_loadPart_at hx ?_; rw [hc]) | (with_reducible refine wpAny_typeLookup_exc hC hn FB.mro FB.ga.lookup ?_; rw [hng]) | (with_reducible refine wpAny_typeLookup_exc hC hn FB.mro FB.noGetattr ?_; rw [hnh]) | wp_step))
  refine load_call FB hC hn hna hB I hv ?_
  show wpAny _ _ _ _ _ _
  repeat (any_goals (first | assumption | rw [hh] | wp_step))
theorem load_attr {expr : Bool} {Q : Value → Shared → Prop} (FB : ExcAttrBase B bm)
    (hC : h.get? C = some (excClassObj nm q C N bs bm true sn sub ab col dd k0 k1 k2 k3 k5 newId)) (hn : h.Ns N mN) (hng : mN "__getattribute__" = none) (hnh : mN "__getattr__" = none) (hna : mN name = none)
    (hB : typeLookup (.type B) name = pure none) (I : h.Inst x C mA) (hv : mA name = some v) (hh : handedOut v = pure v) (hq : Q v ⟨h, g, d, t + 1, os⟩) :
    wpAny (model prog w) A (getAttr (.ref x) name expr) Q E ⟨h, g, d, t, os⟩ := by
  unfold getAttr
  repeat (any_goals (first | assumption | with_reducible apply load_by FB hC hn hng hnh hna hB I hv hh | wp_step))
/-- Base.__init__(self) -/
theorem init_call {oe : Obj} {vs : Array Value} {Q : Value → Shared → Prop} (F : ExcBaseFacts B newId initId bm)
    (hC : h.get? C = some (excClassObj nm q C N bs bm true sn sub ab col dd k0 k1 k2 k3 k5 newId)) (hx : h.get? x = some oe) (hc : oe.cls = .ref C) (hd : oe.data = .fields vs) (hz : 0 < vs.size)
    (hq : Q .none ⟨(h.push (tupNew [])).update x (Obj.mapFields (·.setIfInBounds 0 (.ref h.objs.size))), g, d, t, os⟩) :
    wpAny (model prog w) A (call (.builtin initId) [.ref x]) Q E ⟨h, g, d, t, os⟩ := by
  have hx₁ := Heap.get?_push_of_some (tupNew []) hx
  refine wpAny_call (codeAny_call_builtin F.init.plain F.initEntry (wpAny_check_init_sub F hC hx hc ?_))
  unfold Builtin.«BaseException.__init__»
  repeat (any_goals (first | assumption | wp_step))
  rw [hd]
  refine wpAny_pure ?_
  rw [show vs[0]? = some vs[0] from Array.getElem?_eq_getElem hz]
  refine wpAny_pure (wpAny_bind (wpAny_setField hx₁ hd hz ?_))
  cases vs[0] <;> (wp_walk; exact hq)
end
end XL
end PySem
end
section
set_option maxRecDepth 100000
set_option Elab.async false
namespace PySem
namespace XL
/-- what a note of a frame leaves: fr the frames, e the exception, T the new entry, z an entry that was there -/
structure Noted (fr : List Addr) (z e T : Addr) (oe : Obj) (fl : Value) (h h' : Heap) : Prop where
  new : h.objs.size ≤ T
  ne : T ≠ e
  keep : ∀ b o, b ∉ fr → b ≠ e → b ≠ z → h.get? b = some o → h'.get? b = some o
  slot : ∀ b o, b ∈ fr → b ≠ e → b ≠ z → h.get? b = some o → ∃ sl, h'.get? b = some { o with slots := sl }
  exc : h'.get? e = some (oe.mapFields (·.setIfInBounds 1 (.ref T)))
  ent : ∃ oT ts, h'.get? T = some oT ∧ oT.data = .fields ts ∧ ts[3]? = some fl
section
variable {M : Model} {A : Around} {E : Value → Shared → Prop} {s : Shared}
theorem entry_new {base : Heap} {env : Env} {outer : List Env} {L e z : Addr} {oe : Obj} {vs : Array Value} {head : Value} {hn : Bool} {Q : Unit → Shared → Prop}
    (fs : A.frames = some (env :: outer)) (ff : s.heap.FunFrames base (env :: outer)) (fL : env.frame = some L) (ge : s.heap.get? e = some oe) (de : oe.data = .fields vs) (ze : 1 < vs.size)
    (k : ∀ h' T, Noted ((env :: outer).filterMap (·.frame)) z e T oe (rawInt L) s.heap h' → Q () { s with heap := h' }) :
    wpAny M A (do
      let a ← frameOf env
      let pl ← entryPlaceOf L hn
      let b ← EntryCells.newEntry head a .none (rawInt L) .none pl
      setField (.ref e) 1 b) Q E s := by
  have nf : e ∉ (env :: outer).filterMap (·.frame) := fun m => by
    obtain ⟨_, o, g1, g2⟩ := ff.mem m
    rw [ge] at g1
    cases g1
    exact g2 vs de
  refine wpAny_bind (wpAny_frameOf_fun fs ff fL fun g gs => wpAny_bind (wpAny_entryPlaceOf fun pl hp => ?_))
  unfold EntryCells.newEntry newFields
  refine wpAny_bind (wpAny_newObj_type ?_ (hp.sizeOk5 _ _ _ _ _))
  have g1 : g.get? e = some oe := (gs.2.1 e nf).trans ge
  have g2 := Heap.get?_push_of_some (h := g) { cls := .type "traceback", dict := none, data := .fields ([head, .ref L, .none, rawInt L, .none] ++ (if pl.isEmpty then List.replicate 6 Value.none else pl)).toArray } g1
  have te : g.objs.size ≠ e := Nat.ne_of_gt (Heap.lt_size g1)
  refine wpAny_setField g2 de ze (k _ g.objs.size ⟨Nat.le_of_eq gs.1.symm, te, fun b o n1 n2 _ g3 => ?_, fun b o n1 n2 _ g3 => ?_, ?_, ?_⟩)
  · rw [Heap.get?_update_other _ _ (Ne.symm n2)]
    exact Heap.get?_push_of_some _ ((gs.2.1 b n1).trans g3)
  · obtain ⟨sl, g4⟩ := gs.2.2 b o g3
    exact ⟨sl, by rw [Heap.get?_update_other _ _ (Ne.symm n2)]; exact Heap.get?_push_of_some _ g4⟩
  · exact Heap.get?_update_self _ g2 (Obj.isFreed_of_fields (Obj.data_mapFields de _))
  · refine ⟨_, _, (Heap.get?_update_other _ _ (Ne.symm te)).trans (Heap.get?_push_size g rfl), rfl, ?_⟩
    first | (simp; done) | (rcases hp with rfl | ⟨_, _, _, _, _, _, _, rfl⟩ <;> simp)
/-- a frame is noted on an exception that has no entry yet -/
theorem note_first {base : Heap} {env : Env} {outer : List Env} {L e z : Addr} {oe : Obj} {vs : Array Value} {Q : Unit → Shared → Prop}
    (fs : A.frames = some (env :: outer)) (ff : s.heap.FunFrames base (env :: outer)) (fL : env.frame = some L) (ge : s.heap.get? e = some oe) (de : oe.data = .fields vs) (h1 : vs[1]? = some .none)
    (k : ∀ h' T, Noted ((env :: outer).filterMap (·.frame)) z e T oe (rawInt L) s.heap h' → Q () { s with heap := h' }) : wpAny M A (noteFrame (.ref e) env) Q E s := by
  unfold noteFrame
  simp only [fL]
  refine wpAny_bind (wpAny_field ge de h1 ?_)
  rw [if_neg (by decide)]
  exact entry_new fs ff fL ge de (Array.getElem?_eq_some_iff.mp h1).1 k
/-- .. on one that has an entry, not in flight -/
theorem note_next {base : Heap} {env : Env} {outer : List Env} {L e z : Addr} {oe oz : Obj} {vs zs : Array Value} {Q : Unit → Shared → Prop}
    (fs : A.frames = some (env :: outer)) (ff : s.heap.FunFrames base (env :: outer)) (fL : env.frame = some L) (ge : s.heap.get? e = some oe) (de : oe.data = .fields vs) (h1 : vs[1]? = some (.ref z))
    (gz : s.heap.get? z = some oz) (dz : oz.data = .fields zs) (h3 : zs[3]? = some .none) (ez : z ≠ e)
    (k : ∀ h' T, Noted ((env :: outer).filterMap (·.frame)) z e T oe (rawInt L) s.heap h' → T ≠ z → (∃ o ts, h'.get? z = some o ∧ o.data = .fields ts ∧ ts[3]? = some .none) → Q () { s with heap := h' }) : wpAny M A (noteFrame (.ref e) env) Q E s := by
  have zz : 3 < zs.size := (Array.getElem?_eq_some_iff.mp h3).1
  unfold noteFrame
  simp only [fL]
  refine wpAny_bind (wpAny_field ge de h1 ?_)
  rw [if_pos (show (Value.ref z != Value.none) = true by simp)]
  refine wpAny_bind (wpAny_field gz dz h3 ?_)
  rw [if_neg (show ¬ ((Value.none == rawInt L) = true) by simp [rawInt])]
  refine wpAny_bind (wpAny_setField gz dz zz ?_)
  have oth : ∀ b, b ≠ z → (s.heap.update z (Obj.mapFields (·.setIfInBounds 3 Value.none))).get? b = s.heap.get? b := fun b n => Heap.get?_update_other _ _ (Ne.symm n)
  have gz' : (s.heap.update z (Obj.mapFields (·.setIfInBounds 3 Value.none))).get? z = _ := Heap.get?_update_self _ gz (Obj.isFreed_of_fields (Obj.data_mapFields dz _))
  have nrec : ∀ b o, s.heap.get? b = some o → (∀ ws, o.data ≠ .fields ws) → b ≠ z := fun b o g1 g2 q => by
    rw [q, gz] at g1
    cases g1
    exact g2 zs dz
  have ff' := ff.of_keeps (h' := s.heap.update z (Obj.mapFields (·.setIfInBounds 3 Value.none))) fun b o g1 g2 => ⟨o, (oth b (nrec b o g1 g2)).trans g1, rfl⟩
  have nfz : z ∉ (env :: outer).filterMap (·.frame) := fun m => by
    obtain ⟨_, o, g1, g2⟩ := ff.mem m
    rw [gz] at g1
    cases g1
    exact g2 zs dz
  refine entry_new (z := e) fs ff' fL ((oth e (Ne.symm ez)).trans ge) de (Array.getElem?_eq_some_iff.mp h1).1 fun h' T n => ?_
  have nn : s.heap.objs.size ≤ T := by
    have := n.new
    rw [Heap.size_update] at this
    exact this
  have tz : T ≠ z := fun q => absurd (Heap.lt_size gz) (by rw [← q]; exact Nat.not_lt.mpr nn)
  have hz' := n.keep z _ nfz ez ez gz'
  exact k h' T ⟨nn, n.ne, fun b o n1 n2 n3 g1 => n.keep b o n1 n2 n2 ((oth b n3).trans g1), fun b o n1 n2 n3 g1 => n.slot b o n1 n2 n2 ((oth b n3).trans g1), n.exc, n.ent⟩ tz
    ⟨_, _, hz', Obj.data_mapFields dz _, by simp [zz]⟩
end
end XL
end PySem
end
section
set_option maxRecDepth 100000
set_option Elab.async false
namespace PySem
namespace XL
open Builtin.ObjectAttr
section
variable {prog : Program} {w : World} {A : Around} {E : Value → Shared → Prop} {h : Heap} {g : Array GenState} {d : Drawn} {t : Nat} {os : OsState}
variable {nm q : Str} {C N x : Addr} {bs bm : List Value} {sn : List Str} {sub : List Value} {ab : Bool} {col : Option Bool} {dd : Option Addr} {k0 k1 k2 k3 k5 : Option Value} {B newId sa owner : String}
  {mN : Str → Option Value} {name : Str} {v : Value}
/-- the first attribute that is stored on an instance without a dict: the dict is made at the heap's end -/
theorem first_entry {tk : Tok} {o : Obj} {Q : Fin → Shared → Prop} (SF : StoreFacts B bm sa owner)
    (hC : h.get? C = some (excClassObj nm q C N bs bm true sn sub ab col dd k0 k1 k2 k3 k5 newId)) (hn : h.Ns N mN) (hna : mN name = none) (hB : typeLookup (.type B) name = pure none)
    (gx : h.get? x = some o) (cx : o.cls = .ref C) (nx : ∀ c, o.data ≠ .cls c) (dx : o.dict = none)
    (k : ∀ h' tk', h'.Ns1 h.objs.size (fun y => if y = name then some v else none) → h'.get? x = some { o with dict := some h.objs.size } → (∀ b ob, b ≠ x → h.get? b = some ob → h'.get? b = some ob) → Q (.done (.ret .none)) ⟨h', g, d, tk', os⟩) :
    wpAny (model prog w) A (Builtin.«object.__setattr__» ⟨[.ref x, .str name tk, v], []⟩) Q E ⟨h, g, d, t, os⟩ := by
  have ps := SF.passes (.ref x)
  unfold Builtin.«object.__setattr__»
  repeat (first | rw [refuse_eq] | (rw [refuseLoop_ref, ps]) | (with_reducible refine wpAny_loadPart_at gx ?_; rw [cx]) | with_reducible refine wpAny_mroOf_exc hC ?_ | (with_reducible refine wpAny_typeLookup_exc hC hn SF.mro hB ?_; rw [hna]) | wp_step)
  rw [dx, if_neg (by simp [typeHasDict])]
  split
  · rename_i z
    cases z
  split
  · rename_i c z
    exact absurd z (nx c)
  · have gx1 : (h.push { cls := .type "dict", data := .dict #[] }).get? x = some o := Heap.get?_push_of_some _ gx
    have ne : x ≠ h.objs.size := Nat.ne_of_lt (Heap.lt_size gx)
    refine wpAny_bind (wpAny_alloc' (wpAny_bind (wpAny_update' gx1 (wpAny_pure ?_))))
    have gd : ((h.push { cls := .type "dict", data := .dict #[] }).update x fun o => { cls := o.cls, dict := some h.objs.size, data := o.data, slots := o.slots }).get? h.objs.size = some { cls := .type "dict", data := .dict #[] } :=
      (Heap.get?_update_ne _ _ _ _ ne.symm).trans (Heap.get?_push_at rfl rfl)
    have nd : ((h.push { cls := .type "dict", data := .dict #[] }).update x fun o => { cls := o.cls, dict := some h.objs.size, data := o.data, slots := o.slots }).Ns h.objs.size (fun _ => none) :=
      ⟨_, #[], _, gd, rfl, fun e he => absurd he (by simp), fun _ => rfl⟩
    show wpAny _ _ (storeInDict h.objs.size (.str name tk) name v) _ _ _
    unfold storeInDict newKeyGuard
    refine wpAny_bind (wpAny_pure (wpAny_bind (wpAny_nsSet1 (Heap.Ns1.of_empty nd) fun h' n' sb => ?_)))
    obtain ⟨oD, eD, pD, g1, g2, g3⟩ := n'.count (Within.cons name v Within.nil)
    refine wpAny_bind (wpAny_lookBehind g1 (by rw [g2]; exact pastItsLine_dict (Nat.le_trans g3 (by rw [List.length_cons, List.length_nil, sizeLine_eq]; omega))) ?_)
    wp_walk
    refine k h' _ n' ?_ fun b ob nb gb => ?_
    · refine (sb.2 x ne).trans (Heap.get?_update_self _ gx1 ?_)
      have fr := (Heap.get?_some_iff.mp gx).2
      obtain ⟨oc, od, odt, osl⟩ := o
      cases odt <;> first | rfl | exact fr
    · exact (sb.2 b (Nat.ne_of_lt (Heap.lt_size gb))).trans ((Heap.get?_update_ne _ _ _ _ nb).trans (Heap.get?_push_of_some _ gb))
theorem first_attr {o : Obj} {Q : Unit → Shared → Prop} (SF : StoreFacts B bm sa owner)
    (hC : h.get? C = some (excClassObj nm q C N bs bm true sn sub ab col dd k0 k1 k2 k3 k5 newId)) (hn : h.Ns N mN) (hns : mN "__setattr__" = none) (hna : mN name = none) (hB : typeLookup (.type B) name = pure none)
    (gx : h.get? x = some o) (cx : o.cls = .ref C) (nx : ∀ c, o.data ≠ .cls c) (dx : o.dict = none)
    (k : ∀ h' tk', h'.Ns1 h.objs.size (fun y => if y = name then some v else none) → h'.get? x = some { o with dict := some h.objs.size } → (∀ b ob, b ≠ x → h.get? b = some ob → h'.get? b = some ob) → Q () ⟨h', g, d, tk', os⟩) :
    wpAny (model prog w) A (setAttr (.ref x) name v) Q E ⟨h, g, d, t, os⟩ := by
  have f3 := SF.slot.bind (.ref x)
  unfold setAttr callSpecial? specialOf
  repeat (any_goals (first | assumption | (with_reducible refine wpAny_loadPart_at gx ?_; rw [cx]) | (with_reducible refine wpAny_typeLookup_exc hC hn SF.mro SF.slot.lookup ?_; rw [hns]) | wp_step))
  refine codeAny_call_builtin SF.slot.plain SF.entry (wpAny_check_sa SF hC gx cx (first_entry SF hC hn hna hB gx cx nx dx fun h' tk' a b c => ?_))
  repeat (any_goals (first | assumption | wp_step))
  exact k h' tk' a b c
/-- a further one -/
theorem next_attr {o : Obj} {dx : Addr} {mA : Str → Option Value} {ns : List Str} {Q : Unit → Shared → Prop} (SF : StoreFacts B bm sa owner)
    (hC : h.get? C = some (excClassObj nm q C N bs bm true sn sub ab col dd k0 k1 k2 k3 k5 newId)) (hn : h.Ns N mN) (hns : mN "__setattr__" = none) (hna : mN name = none) (hB : typeLookup (.type B) name = pure none)
    (gx : h.get? x = some o) (cx : o.cls = .ref C) (nx : ∀ c, o.data ≠ .cls c) (hd : o.dict = some dx) (ne : dx ≠ x) (hm : h.Ns1 dx mA) (hw : Within mA ns) (hz : ns.length ≤ sizeLine) (xC : x ≠ C)
    (k : ∀ h' tk', h'.Ns1 dx (fun y => if y = name then some v else mA y) → (∀ b ob, b ≠ dx → h.get? b = some ob → h'.get? b = some ob) → Q () ⟨h', g, d, tk', os⟩) :
    wpAny (model prog w) A (setAttr (.ref x) name v) Q E ⟨h, g, d, t, os⟩ := by
  refine store_attr SF hC hn hns hna hB xC ⟨o, gx, cx, nx, .inr ⟨dx, hd, ne, hm⟩⟩ (fun h' tk' I' kp sm => ?_) hw hz
  obtain ⟨o1, g1, p1, p2, p3, g5⟩ := sm o gx
  obtain ⟨o2, e1, _, _, e4⟩ := I'
  have eo : o1 = o2 := Option.some.inj (g1.symm.trans e1)
  subst eo
  rcases e4 with ⟨e5, _⟩ | ⟨d2, e5, _, e6⟩
  · rw [g5 dx hd] at e5
    cases e5
  · have ed : dx = d2 := Option.some.inj ((g5 dx hd).symm.trans e5)
    subst ed
    refine k h' tk' e6 fun b ob nb gb => ?_
    by_cases hb : b = x
    · subst hb
      have : ob = o := Option.some.inj (gb.symm.trans gx)
      subst this
      have p4 := (g5 dx hd).trans hd.symm
      refine g1.trans (congrArg some ?_)
      obtain ⟨a1, a2, a3, a4⟩ := o1
      obtain ⟨b1, b2, b3, b4⟩ := ob
      dsimp only at p1 p2 p3 p4
      subst p1 p2 p3 p4
      rfl
    · exact kp b ob hb (fun o0 d0 q1 q2 z => nb (by
        have : o0 = o := Option.some.inj (q1.symm.trans gx)
        subst this
        rw [z]
        exact Option.some.inj (q2.symm.trans hd))) gb
end
end XL
end PySem
end
section
set_option maxRecDepth 100000
set_option Elab.async false
namespace PySem
namespace XL
open AutoSeq1 (wpAny_loadPart')
section
variable {prog : Program} {w : World} {A : Around} {E : Value → Shared → Prop} {s : Shared}
theorem nextOf_tup_item {j t : Addr} {i : Nat} {its : Array Value} {x : Value} {Q : Value → Shared → Prop} (hj : s.heap.IsTupleIter j t i) (ht : s.heap.IsTuple t its) (hx : its[i]? = some x)
    (k : ∀ h', h'.IsTupleIter j t (i + 1) → Heap.SameBut j s.heap h' → Q x { s with heap := h' }) : wpAny (model prog w) A (Builtin.SmallTypes.nextOf (.ref j)) Q E s := by
  obtain ⟨o, g1, c1, d1⟩ := id hj
  obtain ⟨p, g2, _, n, d2⟩ := ht
  unfold Builtin.SmallTypes.nextOf
  refine wpAny_bind (wpAny_callSpecial?_slot (name := Str.ofString "__next__") hj.typeIs F.slot_tuple_iterator_next (wpAny_call_entry F.slot_tuple_iterator_next hj.typeIs F.entry_tuple_iterator_next ?_ (F.args_tuple_iterator_next_1 _)))
  show wpAny _ _ (field (.ref j) 0 >>= _) _ _ s
  refine wpAny_bind (wpAny_field g1 d1 (x := .ref t) rfl ?_)
  show wpAny _ _ (if (Value.ref t == Value.none) = true then _ else _) _ _ s
  rw [if_neg (show ¬ (Value.ref t == Value.none) = true from Bool.false_ne_true)]
  show wpAny _ _ (field (.ref j) 1 >>= _) _ _ s
  refine wpAny_bind (wpAny_field g1 d1 (x := .int i 0) rfl ?_)
  show wpAny _ _ (seqItems? (.ref t) >>= _) _ _ s
  refine wpAny_bind (wpAny_seqItems g2 d2 ?_)
  simp only [Int.toNat_natCast, hx]
  refine wpAny_bind (wpAny_setField g1 d1 (by simp) (wpAny_pure ⟨x, rfl, wpAny_pure (k _ ⟨_, Heap.get?_update_self _ g1 (Obj.isFreed_of_fields (Obj.data_mapFields d1 _)), (Obj.cls_mapFields ..).trans c1, ?_⟩ (Heap.SameBut.update ..))⟩))
  rw [Obj.data_mapFields d1]
  simp [rawInt]
theorem nextOf_tup_end {j t : Addr} {i : Nat} {its : Array Value} {Q : Value → Shared → Prop} (hh : A.handled = none) (hj : s.heap.IsTupleIter j t i) (ht : s.heap.IsTuple t its) (hx : its[i]? = none)
    (k : ∀ h' e, Heap.ExtBut j s.heap h' → (∃ o, h'.get? e = some o ∧ o.cls = .type "StopIteration") → E (.ref e) { s with heap := h' }) : wpAny (model prog w) A (Builtin.SmallTypes.nextOf (.ref j)) Q E s := by
  obtain ⟨o, g1, c1, d1⟩ := id hj
  obtain ⟨p, g2, _, n, d2⟩ := ht
  unfold Builtin.SmallTypes.nextOf
  refine wpAny_bind (wpAny_callSpecial?_slot (name := Str.ofString "__next__") hj.typeIs F.slot_tuple_iterator_next (wpAny_call_entry F.slot_tuple_iterator_next hj.typeIs F.entry_tuple_iterator_next ?_ (F.args_tuple_iterator_next_1 _)))
  show wpAny _ _ (field (.ref j) 0 >>= _) _ _ s
  refine wpAny_bind (wpAny_field g1 d1 (x := .ref t) rfl ?_)
  show wpAny _ _ (if (Value.ref t == Value.none) = true then _ else _) _ _ s
  rw [if_neg (show ¬ (Value.ref t == Value.none) = true from Bool.false_ne_true)]
  show wpAny _ _ (field (.ref j) 1 >>= _) _ _ s
  refine wpAny_bind (wpAny_field g1 d1 (x := .int i 0) rfl ?_)
  show wpAny _ _ (seqItems? (.ref t) >>= _) _ _ s
  refine wpAny_bind (wpAny_seqItems g2 d2 ?_)
  simp only [Int.toNat_natCast, hx]
  refine wpAny_bind (wpAny_rule (wpAny_bind (wpAny_setField g1 d1 (by simp) ?_)))
  show wpAny _ _ (newExc (.type "StopIteration") [] >>= _) _ _ _
  simp only [newExc, newTuple]
  refine wpAny_bind (wpAny_bind (wpAny_newObj_type ?_ (by size_fits)))
  refine wpAny_bind (m := firstArgMember _ _) (wpAny_of_eq (a := Value.none) (by first | rfl | (simp only [firstArgMember]; rfl)) (wpAny_newObj_type ?_ (by size_fits)))
  simp only [raiseNew]
  refine wpAny_bind (wpAny_handled ?_)
  first | rw [show A.in1.handled = none from hh] | rw [hh]
  exact wpAny_bind (wpAny_pure (wpAny_throw (k _ _ (((Heap.SameBut.update ..).extBut.push _).push _) ⟨_, Heap.get?_push_size _ rfl, rfl⟩)))
end
theorem draws_tup {prog : Program} {w : World} {A : Around} (hh : A.handled = none) (j t : Addr) (hne : t ≠ j) (its : Array Value) :
    Draws prog w A j [j, t] its.size (fun i v => its[i]? = some v) (fun i h => h.IsTupleIter j t i ∧ h.IsTuple t its) where
  live := fun _ _ st => let ⟨o, ho, _⟩ := st.1; ⟨o, ho⟩
  frame := fun _ _ _ st hk => ⟨st.1.at fun o e => hk j (by simp) o e, let ⟨o, ho, r⟩ := st.2; ⟨o, hk t (by simp) o ho, r⟩⟩
  item := fun i s Q E hi st hQ => nextOf_tup_item st.1 st.2 (x := its[i]) (by simp [hi]) fun h' hit' hs' => hQ _ h' s.toks (by simp [hi]) ⟨hit', let ⟨o, ho, r⟩ := st.2; ⟨o, (hs'.2 t hne).trans ho, r⟩⟩ hs'
  done := fun s Q E st hE => nextOf_tup_end hh st.1 st.2 (by simp) hE
theorem meets_enum_tup (t : Addr) (its : Array Value) (n : Nat) (dct : Option Addr) (sl : Array (Option Value)) :
    Meets (Builtin.«enumerate.__new__» ⟨[.type "enumerate", .ref t], []⟩) (fun _ R s => s.heap.get? t = some { cls := .type "tuple", dict := dct, data := .seq its n, slots := sl } ∧
      R (.ok (.ret (.ref (s.heap.push { cls := .type "tuple_iterator", data := .fields #[.ref t, .int 0 0] }).objs.size)))
        { s with heap := (s.heap.push { cls := .type "tuple_iterator", data := .fields #[.ref t, .int 0 0] }).push { cls := .type "enumerate", data := .fields #[.none, .bool false, .ref s.heap.objs.size, rawInt 0, .none, .none] } }) :=
  .of_wp fun prog w A R s h => by
    obtain ⟨hp, g, d, tk, os⟩ := s
    obtain ⟨hl, h⟩ := h
    have hsub := sub_enumerate
    have hT : Heap.IsTuple (Shared.heap ⟨hp, g, d, tk, os⟩) t its := ⟨_, hl, rfl, n, rfl⟩
    wp_walk using wpAny_loadPart' hl
    refine wpAny_stack_any fun st => wpAny_pure ?_
    split
    · rename_i c _ _ _ _ _
      cases (c == Value.type "enumerate")
      · wp_walk using wpAny_loadPart' hl, wpAny_pyIter_tuple hT
        exact ⟨_, rfl, h⟩
      · wp_walk using wpAny_loadPart' hl, wpAny_pyIter_tuple hT
        exact ⟨_, rfl, h⟩
    · wp_walk using wpAny_loadPart' hl, wpAny_pyIter_tuple hT
      exact ⟨_, rfl, h⟩
section
variable {prog : Program} {w : World} {A : Around} {E : Value → Shared → Prop} {s : Shared}
theorem call_enum_tup {t : Addr} {its : Array Value} {Q : Value → Shared → Prop} (hT : s.heap.IsTuple t its)
    (k : ∀ h', IsEnum h' (s.heap.objs.size + 1) s.heap.objs.size 0 .none → h'.IsTupleIter s.heap.objs.size t 0 → h'.objs.size = s.heap.objs.size + 2 → (∀ b o, s.heap.get? b = some o → h'.get? b = some o) → Q (.ref (s.heap.objs.size + 1)) { s with heap := h' }) :
    wpAny (model prog w) A (call (.type "enumerate") [.ref t]) Q E s := by
  obtain ⟨⟨c, dct, dt, sl⟩, hl, hc, n, hd⟩ := hT
  obtain rfl : c = .type "tuple" := hc
  obtain rfl : dt = .seq its n := hd
  refine callType_new F.called_enumerate (by decide) (F.typeCall_enumerate_1 _) (F.newCall_enumerate_1 _) (fun obj => F.args_object_init_2 obj _) F.entry_enumerate_new (meets_enum_tup t its n dct sl) ⟨hl, ?_⟩
  have hz : (s.heap.push { cls := .type "tuple_iterator", data := .fields #[.ref t, .int 0 0] }).objs.size = s.heap.objs.size + 1 := Heap.size_push ..
  show _ ∧ _
  rw [hz]
  have he : IsEnum ((s.heap.push { cls := .type "tuple_iterator", data := .fields #[.ref t, .int 0 0] }).push { cls := .type "enumerate", data := .fields #[.none, .bool false, .ref s.heap.objs.size, rawInt 0, .none, .none] }) (s.heap.objs.size + 1) s.heap.objs.size 0 .none := by
    have q := Heap.get?_push_size (s.heap.push { cls := .type "tuple_iterator", data := .fields #[.ref t, .int 0 0] }) (o := { cls := .type "enumerate", data := .fields #[.none, .bool false, .ref s.heap.objs.size, rawInt 0, .none, .none] }) rfl
    rw [hz] at q
    exact q
  exact ⟨⟨_, he, rfl⟩, k _ he ⟨_, Heap.get?_push_of_some _ (Heap.get?_push_size _ rfl), rfl, rfl⟩ (by rw [Heap.size_push, hz]) fun b o y => Heap.get?_push_of_some _ (Heap.get?_push_of_some _ y)⟩
end
end XL
end PySem
end
section
set_option Elab.async false
set_option linter.all false
set_option maxRecDepth 100000
set_option maxHeartbeats 2000000
namespace L2
open PySem PySem.Spec PyProof.Rows PySem.XL
/-! ### a thing told by its one object -/
def one (x : Addr) (P : Obj → Prop) : HO := .ext fun h => ∃ o, h.get? x = some o ∧ P o
theorem one_ok {Pr : Program} {w : World} {H : Hp} {h : Heap} {x : Addr} {P : Obj → Prop} {o : Obj} (e : h.get? x = some o) (p : P o) : ObjOk Pr w H h x (one x P) :=
  ⟨⟨o, e, p⟩, ⟨o, e⟩, fun _ _ ⟨o, e, p⟩ k => ⟨o, k o e, p⟩⟩
theorem one_at {Pr : Program} {w : World} {H : Hp} {h : Heap} {x : Addr} {P : Obj → Prop} (hok : HOk Pr w H h) (e : H x = some (one x P)) : ∃ o, h.get? x = some o ∧ P o := (hok x _ e).1
/-- an exception of the class at C, its dict, its traceback -/
def excP (C : Addr) (od : Option Addr) (tv : Value) (o : Obj) : Prop := o.cls = .ref C ∧ o.dict = od ∧ ∃ vs, o.data = .fields vs ∧ vs[1]? = some tv
def exc (C : Addr) (od : Option Addr) (tv : Value) (x : Addr) : HO := one x (excP C od tv)
/-- a traceback's entry, in flight as fl says -/
def entP (fl : Value) (o : Obj) : Prop := ∃ ts, o.data = .fields ts ∧ ts[3]? = some fl
def ent (fl : Value) (T : Addr) : HO := one T (entP fl)
/-- an exception's dict -/
def xdc (d : Addr) (fs : List (Str × V)) : HO := .ext fun h => ∃ mA, h.Ns1 d mA ∧ (∀ f, RelO (fs.lookup f) (mA f)) ∧ Within mA (fs.map (·.1)) ∧ fs.length ≤ 1000
theorem xdc_ok {Pr : Program} {w : World} {H : Hp} {h : Heap} {d : Addr} {fs : List (Str × V)} {mA : Str → Option Value} (n : h.Ns1 d mA) (r : ∀ f, RelO (fs.lookup f) (mA f)) (wi : Within mA (fs.map (·.1))) (l : fs.length ≤ 1000) : ObjOk Pr w H h d (xdc d fs) := by
  refine ⟨⟨mA, n, r, wi, l⟩, ?_, fun h1 h2 ⟨m, n, r⟩ k => ⟨m, n.at k, r⟩⟩
  obtain ⟨o, _, _, e, _⟩ := n
  exact ⟨o, e⟩
theorem xdc_at {Pr : Program} {w : World} {H : Hp} {h : Heap} {d : Addr} {fs : List (Str × V)} (hok : HOk Pr w H h) (e : H d = some (xdc d fs)) : ∃ mA, h.Ns1 d mA ∧ (∀ f, RelO (fs.lookup f) (mA f)) ∧ Within mA (fs.map (·.1)) ∧ fs.length ≤ 1000 := (hok d _ e).1
/-! ### an own class straight under Exception -/
abbrev excMro : List Value := [.type "Exception", .type "BaseException", .type "object"]
def xcIn (K : PySem.W.Frag) (C : Addr) : Option Addr := match K.lookup C with
  | some ⟨.type "type", _, .cls cd, sl⟩ => (match cd.mro, sl.toList with
    | .ref C' :: bm, [_, _, _, _, some (.builtin n), _] => if (C' == C && (bm == excMro && (n == "Exception.__new__" && (!cd.hasDel && (cd.hasDict && PySem.W.nsOkIn K cd.ns))))) = true then some cd.ns else none
    | _, _ => none)
  | _ => none
structure XC (K : PySem.W.Frag) (C N : Addr) : Prop where
  cl : xcIn K C = some N
  ga : PySem.W.nsIn K N "__getattribute__" = some none
  gt : PySem.W.nsIn K N "__getattr__" = some none
  sa : PySem.W.nsIn K N "__setattr__" = some none
/-- a name that neither the class nor Exception has -/
structure XNo (K : PySem.W.Frag) (N : Addr) (f : Str) : Prop where
  own : PySem.W.nsIn K N f = some none
  base : typeLookup (.type "Exception") f = pure none
theorem ns_some_of {K : PySem.W.Frag} {h : Heap} {N : Addr} {mg : Str → Option Value} {n : Str} {v : Value} (X : K.In h) (G : h.Ns N mg) (e : PySem.W.nsIn K N n = some (some v)) : mg n = some v := by
  obtain ⟨o, es, ep, ho, hd, _, hf⟩ := G
  unfold PySem.W.nsIn at e
  split at e
  · rename_i c d es' n' sl q
    have := X _ _ q
    rw [ho] at this
    cases this
    cases hd
    split at e
    · rename_i y he
      rw [← hf]
      unfold nsFind findBy
      rw [← Array.find?_toList, he]
      exact Option.some.inj e
    · split at e <;> cases e
  · cases e
theorem XC.obj {K : PySem.W.Frag} {C N : Addr} (c : XC K C N) : ∃ nm q bs sn sub ab col dd k0 k1 k2 k3 k5, ∀ h : Heap, K.In h → h.get? C = some (excClassObj nm q C N bs excMro true sn sub ab col dd k0 k1 k2 k3 k5 "Exception.__new__") ∧ h.Ns N (h.nsMap N) ∧
    h.nsMap N "__getattribute__" = none ∧ h.nsMap N "__getattr__" = none ∧ h.nsMap N "__setattr__" = none := by
  have e := c.cl
  unfold xcIn at e
  split at e
  · rename_i dd cd sl ho
    split at e
    · rename_i C' bm k0 k1 k2 k3 n k5 hm hs
      split at e
      · rename_i q
        simp only [Bool.and_eq_true, beq_iff_eq, Bool.not_eq_true'] at q
        obtain ⟨rfl, rfl, rfl, hdel, hdc, hok⟩ := q
        have eN : cd.ns = N := Option.some.inj e
        obtain ⟨nm, bs, mro, ns, qn, hd, sn, sub, ab, col, del⟩ := cd
        dsimp only at hm hdel hdc hok eN
        subst hm hdel hdc eN
        have hsl : sl = #[k0, k1, k2, k3, some (.builtin "Exception.__new__"), k5] := by
          obtain ⟨l⟩ := sl
          simp only at hs
          rw [hs]
        subst hsl
        exact ⟨nm, qn, bs, sn, sub, ab, col, dd, k0, k1, k2, k3, k5, fun h X => ⟨X _ _ ho, .of_isNs (PySem.W.isNs_of_in X hok), PySem.W.nsMap_none_of_in X hok c.ga, PySem.W.nsMap_none_of_in X hok c.gt, PySem.W.nsMap_none_of_in X hok c.sa⟩⟩
      · cases e
    · cases e
  · cases e
theorem exc_map {C : Addr} {od : Option Addr} {tv : Value} {o : Obj} (p : excP C od tv o) (T : Addr) : excP C od (.ref T) (o.mapFields (·.setIfInBounds 1 (.ref T))) := by
  obtain ⟨h1, h2, vs, h3, h4⟩ := p
  have z : 1 < vs.size := (Array.getElem?_eq_some_iff.mp h4).1
  refine ⟨(Obj.cls_mapFields _ _).trans h1, ?_, _, Obj.data_mapFields h3 _, by simp [z]⟩
  obtain ⟨c, d, dt, sl⟩ := o
  cases dt <;> first | exact h2 | cases h3
/-! ### things told by their one object change -/
theorem hok_ext {P : Program} {w : World} {H H2 : Hp} {h h2 : Heap} (S : List Addr) (hok : HOk P w H h) (same : ∀ b, b ∉ S → H2 b = H b)
    (old : ∀ b, b ∈ S → H b = none ∨ ∃ φ, H b = some (.ext φ)) (new : ∀ b, b ∈ S → ∀ u, H2 b = some u → ObjOk P w H2 h2 b u)
    (keep : ∀ b o u, H b = some u → b ∉ S → h.get? b = some o → h2.get? b = some o) : HOk P w H2 h2 := fun b u q => by
  by_cases hb : b ∈ S
  · exact new b hb u q
  · rw [same b hb] at q
    have nS : ∀ c v, H c = some v → (∀ φ, v ≠ .ext φ) → c ∉ S := fun c v e ne z => by
      rcases old c z with r | ⟨φ, r⟩
      · rw [r] at e; cases e
      · rw [r] at e; cases e; exact ne φ rfl
    refine (hok b u q).stay (fun c v hc g => ?_) (fun c e => ?_) fun c xs e => ?_
    · rcases hc with rfl | hc
      · exact keep c v u q hb g
      · exact keep c v _ hc (nS c _ hc (fun φ z => by cases z)) g
    · rw [same c (nS c _ e (fun φ z => by cases z))]; exact e
    · rw [same c (nS c _ e (fun φ z => by cases z))]; exact e
theorem un_ext {fs : List Addr} {H H2 : Hp} {h h2 : Heap} (S : List Addr) (same : ∀ b, b ∉ S → H2 b = H b)
    (old : ∀ b, b ∈ S → (H b = none ∧ h.get? b = none) ∨ ∃ φ, H b = some (.ext φ))
    (keep : ∀ b o, b ∉ S → b ∉ fs → h.get? b = some o → h2.get? b = some o) (slot : ∀ b o, b ∉ S → b ∈ fs → h.get? b = some o → ∃ sl, h2.get? b = some { o with slots := sl })
    (there : ∀ b, b ∈ S → ∀ o, h.get? b = some o → ∃ o', h2.get? b = some o') : Un fs [] H H2 h h2 := by
  have nS : ∀ b o, h.get? b = some o → H b = none → b ∉ S := fun b o e n z => by
    rcases old b z with ⟨_, r⟩ | ⟨φ, r⟩
    · rw [r] at e; cases e
    · rw [r] at n; cases n
  have nS2 : ∀ c v, H c = some v → (∀ φ, v ≠ .ext φ) → c ∉ S := fun c v e ne z => by
    rcases old c z with ⟨r, _⟩ | ⟨φ, r⟩
    · rw [r] at e; cases e
    · rw [r] at e; cases e; exact ne φ rfl
  refine ⟨fun b o e n nb _ => keep b o (nS b o e n) nb e, fun b o e n nb _ => slot b o (nS b o e n) nb e, fun b o e n _ => by rw [same b (nS b o e n)]; exact n, fun b o e _ => ?_,
    fun b xs e => by rw [same b (nS2 b _ e (fun φ z => by cases z))]; exact e, fun b o u e => by rw [same b (nS2 b _ e (fun φ z => by cases z))]; exact e, fun b ps e => ⟨#[], by rw [same b (nS2 b _ e (fun φ z => by cases z)), e]; simp⟩⟩
  by_cases hb : b ∈ S
  · exact there b hb o e
  · by_cases hf : b ∈ fs
    · obtain ⟨sl, q⟩ := slot b o hb hf e
      exact ⟨_, q⟩
    · exact ⟨o, keep b o hb hf e⟩
/-! ### an exception that flies: a where it lies, H0 the heap as it was raised -/
def Kp (a : Addr) (H0 H : Hp) : Prop := ∀ b o, H0 b = some o → b ≠ a → H b = some o
def FlyAt (L : Addr) (H0 : Hp) (a C : Addr) (od : Option Addr) (H : Hp) : Prop := ∃ tv, H a = some (exc C od tv a) ∧ Kp a H0 H ∧ (tv = .none ∨ ∃ T fl, tv = .ref T ∧ T ≠ a ∧ H0 T = none ∧ H T = some (ent fl T) ∧ (fl = .none ∨ fl = rawInt L))
def FlyOn (fl : Value) (H0 : Hp) (a C : Addr) (od : Option Addr) (H : Hp) : Prop := ∃ T, H a = some (exc C od (.ref T) a) ∧ Kp a H0 H ∧ T ≠ a ∧ H0 T = none ∧ H T = some (ent fl T)
theorem FlyOn.at_ {L : Addr} {fl : Value} {H0 : Hp} {a C : Addr} {od : Option Addr} {H : Hp} (f : FlyOn fl H0 a C od H) (h : fl = .none ∨ fl = rawInt L) : FlyAt L H0 a C od H :=
  let ⟨T, h1, h2, h3, h4, h5⟩ := f
  ⟨_, h1, h2, .inr ⟨T, fl, rfl, h3, h4, h5, h⟩⟩
theorem ext_one {x : Addr} {P : Obj → Prop} {H : Hp} (e : H x = some (one x P)) : ∃ φ, H x = some (.ext φ) := ⟨_, e⟩
section
variable {X : Cx} {pins : List (Addr × Obj)} {σ : St} {H H0 : Hp} {s : Shared} {A : Around} {E : Value → Shared → Prop} {a C : Addr} {od : Option Addr}
theorem note_fly {Q : Unit → Shared → Prop} (hst : X.stack = X.env :: X.outer ∧ X.env.frame = some X.env.locals) (hA : A.frames = some X.stack) (I : Inv X pins σ H s) (f : FlyAt X.env.locals H0 a C od H)
    (k : ∀ s' H', Inv X pins σ H' s' → FlyOn (rawInt X.env.locals) H0 a C od H' → Q () s') : wpAny (model X.prog X.w) A (noteFrame (.ref a) X.env) Q E s := by
  obtain ⟨tv, ha, kp, f⟩ := f
  obtain ⟨o, ge, pe⟩ := one_at I.hok ha
  obtain ⟨q1, q2, vs, q3, q4⟩ := id pe
  have ff : s.heap.FunFrames X.base (X.env :: X.outer) := by rw [← hst.1]; exact I.stack
  have fs' : A.frames = some (X.env :: X.outer) := by rw [← hst.1]; exact hA
  have fre : frs X.stack = (X.env :: X.outer).filterMap (·.frame) := by rw [hst.1]; rfl
  rcases f with rfl | ⟨T0, fl, rfl, h1, h2, h3, h4⟩
  · refine note_first (z := a) fs' ff hst.2 ge q3 q4 fun h' T n => ?_
    rw [← fre] at n
    have hT : H T = none := I.hok.fresh n.new
    have gT : s.heap.get? T = none := Heap.get?_none_of_le n.new
    have pe' := exc_map pe T
    have hH : ∀ b, b ∉ [a, T] → (upd (upd H a (exc C od (.ref T) a)) T (ent (rawInt X.env.locals) T)) b = H b := fun b nb => by
      have : b ≠ a ∧ b ≠ T := by simpa using nb
      rw [upd_ne this.2, upd_ne this.1]
    have hTT : (upd (upd H a (exc C od (.ref T) a)) T (ent (rawInt X.env.locals) T)) T = some (ent (rawInt X.env.locals) T) := upd_same
    have haa : (upd (upd H a (exc C od (.ref T) a)) T (ent (rawInt X.env.locals) T)) a = some (exc C od (.ref T) a) := by rw [upd_ne (Ne.symm n.ne), upd_same]
    obtain ⟨oT, ts, t1, t2, t3⟩ := n.ent
    have kpT : H0 T = none := by
      cases e : H0 T with
      | none => rfl
      | some u => rw [kp T u e n.ne] at hT; cases hT
    refine k { s with heap := h' } (upd (upd H a (exc C od (.ref T) a)) T (ent (rawInt X.env.locals) T)) (I.call' (s' := { s with heap := h' }) (ch := []) rfl (un_ext [a, T] hH (fun b hb => ?_) (fun b o nb nf g => ?_) (fun b o nb nf g => ?_) fun b hb o g => ?_) (hok_ext [a, T] I.hok hH (fun b hb => ?_) (fun b hb u hu => ?_) fun b o u hb nb g => ?_) I.bare (fun b z => absurd z (by simp)))
      ⟨T, haa, fun b o e nb => ?_, n.ne, kpT, hTT⟩
    · have : b = a ∨ b = T := by simpa using hb
      rcases this with rfl | rfl
      · exact .inr (ext_one ha)
      · exact .inl ⟨hT, gT⟩
    · have : b ≠ a ∧ b ≠ T := by simpa using nb
      exact n.keep b o nf this.1 this.1 g
    · have : b ≠ a ∧ b ≠ T := by simpa using nb
      exact n.slot b o nf this.1 this.1 g
    · have : b = a ∨ b = T := by simpa using hb
      rcases this with rfl | rfl
      · exact ⟨_, n.exc⟩
      · exact ⟨_, t1⟩
    · have : b = a ∨ b = T := by simpa using hb
      rcases this with rfl | rfl
      · exact .inr (ext_one ha)
      · exact .inl hT
    · have : b = a ∨ b = T := by simpa using hb
      rcases this with rfl | rfl
      · rw [haa] at hu
        cases hu
        exact one_ok n.exc pe'
      · rw [hTT] at hu
        cases hu
        exact one_ok t1 ⟨ts, t2, t3⟩
    · have : b ≠ a ∧ b ≠ T := by simpa using nb
      exact n.keep b o (fun z => by rw [I.stkFree b z] at hb; cases hb) this.1 this.1 g
    · rw [upd_ne (fun z => by rw [z, kpT] at e; cases e), upd_ne nb]
      exact kp b o e nb
  · rcases h4 with rfl | rfl
    · obtain ⟨oz, gz, zs, dz, z3⟩ := one_at I.hok h3
      refine note_next fs' ff hst.2 ge q3 q4 gz dz z3 h1 fun h' T n tz kz => ?_
      rw [← fre] at n
      have hT : H T = none := I.hok.fresh n.new
      have gT : s.heap.get? T = none := Heap.get?_none_of_le n.new
      have pe' := exc_map pe T
      have hH : ∀ b, b ∉ [a, T, T0] → (upd (upd H a (exc C od (.ref T) a)) T (ent (rawInt X.env.locals) T)) b = H b := fun b nb => by
        have : b ≠ a ∧ b ≠ T ∧ b ≠ T0 := by simpa using nb
        rw [upd_ne this.2.1, upd_ne this.1]
      have hTT : (upd (upd H a (exc C od (.ref T) a)) T (ent (rawInt X.env.locals) T)) T = some (ent (rawInt X.env.locals) T) := upd_same
      have haa : (upd (upd H a (exc C od (.ref T) a)) T (ent (rawInt X.env.locals) T)) a = some (exc C od (.ref T) a) := by rw [upd_ne (Ne.symm n.ne), upd_same]
      have hT0 : (upd (upd H a (exc C od (.ref T) a)) T (ent (rawInt X.env.locals) T)) T0 = some (ent .none T0) := by rw [upd_ne (Ne.symm tz), upd_ne h1]; exact h3
      obtain ⟨oT, ts, t1, t2, t3⟩ := n.ent
      obtain ⟨oz', zs', z1', z2', z3'⟩ := kz
      have kpT : H0 T = none := by
        cases e : H0 T with
        | none => rfl
        | some u => rw [kp T u e n.ne] at hT; cases hT
      refine k { s with heap := h' } (upd (upd H a (exc C od (.ref T) a)) T (ent (rawInt X.env.locals) T)) (I.call' (s' := { s with heap := h' }) (ch := []) rfl (un_ext [a, T, T0] hH (fun b hb => ?_) (fun b o nb nf g => ?_) (fun b o nb nf g => ?_) fun b hb o g => ?_) (hok_ext [a, T, T0] I.hok hH (fun b hb => ?_) (fun b hb u hu => ?_) fun b o u hb nb g => ?_) I.bare (fun b z => absurd z (by simp)))
        ⟨T, haa, fun b o e nb => ?_, n.ne, kpT, hTT⟩
      · have : b = a ∨ b = T ∨ b = T0 := by simpa using hb
        rcases this with rfl | rfl | rfl
        · exact .inr (ext_one ha)
        · exact .inl ⟨hT, gT⟩
        · exact .inr (ext_one h3)
      · have : b ≠ a ∧ b ≠ T ∧ b ≠ T0 := by simpa using nb
        exact n.keep b o nf this.1 this.2.2 g
      · have : b ≠ a ∧ b ≠ T ∧ b ≠ T0 := by simpa using nb
        exact n.slot b o nf this.1 this.2.2 g
      · have : b = a ∨ b = T ∨ b = T0 := by simpa using hb
        rcases this with rfl | rfl | rfl
        · exact ⟨_, n.exc⟩
        · exact ⟨_, t1⟩
        · exact ⟨_, z1'⟩
      · have : b = a ∨ b = T ∨ b = T0 := by simpa using hb
        rcases this with rfl | rfl | rfl
        · exact .inr (ext_one ha)
        · exact .inl hT
        · exact .inr (ext_one h3)
      · have : b = a ∨ b = T ∨ b = T0 := by simpa using hb
        rcases this with rfl | rfl | rfl
        · rw [haa] at hu
          cases hu
          exact one_ok n.exc pe'
        · rw [hTT] at hu
          cases hu
          exact one_ok t1 ⟨ts, t2, t3⟩
        · rw [hT0] at hu
          cases hu
          exact one_ok z1' ⟨zs', z2', z3'⟩
      · have : b ≠ a ∧ b ≠ T ∧ b ≠ T0 := by simpa using nb
        exact n.keep b o (fun z => by rw [I.stkFree b z] at hb; cases hb) this.1 this.2.2 g
      · rw [upd_ne (fun z => by rw [z, kpT] at e; cases e), upd_ne nb]
        exact kp b o e nb
    · obtain ⟨oz, gz, zs, dz, z3⟩ := one_at I.hok h3
      exact wpAny_noteFrame_inFlight hst.2 ge q3 q4 gz dz z3 (k s H I ⟨T0, ha, kp, h1, h2, h3⟩)
theorem fly_set {Q : Unit → Shared → Prop} {fl : Value} (fr : Option Addr) (I : Inv X pins σ H s) (f : FlyOn fl H0 a C od H)
    (k : ∀ s' H', Inv X pins σ H' s' → FlyOn (fr.elim .none fun f => rawInt f) H0 a C od H' → Q () s') : wpAny (model X.prog X.w) A (setFlight (.ref a) fr) Q E s := by
  obtain ⟨T, ha, kp, hne, kpT, hT⟩ := f
  obtain ⟨o, ge, q1, q2, vs, q3, q4⟩ := one_at I.hok ha
  obtain ⟨oz, gz, zs, dz, z3⟩ := one_at I.hok hT
  have zz : 3 < zs.size := (Array.getElem?_eq_some_iff.mp z3).1
  unfold setFlight
  refine wpAny_bind (wpAny_field ge q3 q4 ?_)
  rw [if_pos (show (Value.ref T != Value.none) = true by simp)]
  refine wpAny_setField gz dz zz ?_
  have oth : ∀ b, b ≠ T → (s.heap.update T (Obj.mapFields (·.setIfInBounds 3 (fr.elim .none fun f => rawInt f)))).get? b = s.heap.get? b := fun b n => Heap.get?_update_other _ _ (Ne.symm n)
  have gT : (s.heap.update T (Obj.mapFields (·.setIfInBounds 3 (fr.elim .none fun f => rawInt f)))).get? T = _ := Heap.get?_update_self _ gz (Obj.isFreed_of_fields (Obj.data_mapFields dz _))
  have pT : entP (fr.elim .none fun f => rawInt f) (oz.mapFields (·.setIfInBounds 3 (fr.elim .none fun f => rawInt f))) := ⟨_, Obj.data_mapFields dz _, by simp [zz]⟩
  have hH : ∀ b, b ∉ [T] → (upd H T (ent (fr.elim .none fun f => rawInt f) T)) b = H b := fun b nb => by
    have : b ≠ T := by simpa using nb
    rw [upd_ne this]
  refine k { s with heap := s.heap.update T (Obj.mapFields (·.setIfInBounds 3 (fr.elim .none fun f => rawInt f))) } (upd H T (ent (fr.elim .none fun f => rawInt f) T)) (I.call' (s' := { s with heap := s.heap.update T (Obj.mapFields (·.setIfInBounds 3 (fr.elim .none fun f => rawInt f))) }) (ch := []) rfl (un_ext [T] hH (fun b hb => ?_) (fun b o nb nf g => ?_) (fun b o nb nf g => ?_) fun b hb o g => ?_) (hok_ext [T] I.hok hH (fun b hb => ?_) (fun b hb u hu => ?_) fun b o u hb nb g => ?_) I.bare (fun b z => absurd z (by simp)))
      ⟨T, ?_, fun b o e nb => ?_, hne, kpT, upd_same⟩
  · have : b = T := by simpa using hb
    subst this
    exact .inr (ext_one hT)
  · have : b ≠ T := by simpa using nb
    exact (oth b this).trans g
  · have : b ≠ T := by simpa using nb
    exact ⟨o.slots, (oth b this).trans g⟩
  · have : b = T := by simpa using hb
    subst this
    exact ⟨_, gT⟩
  · have : b = T := by simpa using hb
    subst this
    exact .inr (ext_one hT)
  · have : b = T := by simpa using hb
    subst this
    rw [upd_same] at hu
    cases hu
    exact one_ok gT pT
  · have : b ≠ T := by simpa using nb
    exact (oth b this).trans g
  · rw [upd_ne (Ne.symm hne)]
    exact ha
  · rw [upd_ne (fun z => by rw [z, kpT] at e; cases e)]
    exact kp b o e nb
end
/-! ### how an exception lies behind a call; what a body wishes of one -/
def CXf (P : Program) (w : World) : CXT := fun outer H s E e s' => ∃ a C od H0 H', e = .ref a ∧ s'.os = s.os ∧ AllBare s'.gens ∧ Un (frs outer) [] H H' s.heap s'.heap ∧ HOk P w H' s'.heap ∧ FlyOn .none H0 a C od H' ∧ (∀ d, od = some d → d ≠ a) ∧ E (.ref C) od H0
def FlyW (X : Cx) (E : XK) (e : Value) (s : Shared) : Prop := ∃ a C od H0 H σ, e = .ref a ∧ Inv X [] σ H s ∧ FlyAt X.env.locals H0 a C od H ∧ (∀ d, od = some d → d ≠ a) ∧ E (.ref C) od H0
abbrev Cx.fly (X : Cx) (E : XK) : Cx := X.wish (FlyW X E)
/-- a def's own frame stands on top -/
def Cx.Own (X : Cx) : Prop := X.stack = X.env :: X.outer ∧ X.env.frame = some X.env.locals
theorem Inv.bare_pins {X : Cx} {pins : List (Addr × Obj)} {σ : St} {H : Hp} {s : Shared} (I : Inv X pins σ H s) : Inv X [] σ H s := I.pins_of fun p hp => absurd hp (by simp)
theorem own_fly {X : Cx} {E : XK} (ow : X.Own) : PassesOwn (model X.prog X.w) X.A X.env (FlyW X E) := fun e s h => by
  obtain ⟨a, C, od, H0, H, σ, rfl, I, f, e7, e8⟩ := h
  show wpAny _ _ (noteFrame _ _) _ _ s
  refine note_fly ow I.ok.frames I f fun s' H' I' f' => ?_
  obtain ⟨T, ha, _⟩ := id f'
  obtain ⟨o, ge, q1, q2, vs, q3, q4⟩ := one_at I'.hok ha
  show wpAny _ _ (field (.ref a) 1 >>= _) _ _ s'
  refine wpAny_bind (wpAny_field ge q3 q4 ?_)
  rw [if_neg (show ¬ (Value.ref T == Value.none) = true from Bool.false_ne_true)]
  refine fly_set X.env.frame I' f' fun s'' H'' I'' f'' => ?_
  rw [ow.2] at f''
  exact ⟨a, C, od, H0, H'', σ, rfl, I'', f''.at_ (.inr rfl), e7, e8⟩
theorem cxOf_own {CX : CXT} {P : Program} {w : World} {K : PySem.W.Frag} {mg : Str → Option Value} {base : Heap} {N : List Str} {qual : Str} {scope : Scope} {f : Addr} {cd : Value} {A : Around} {outer : List Env} {s : Shared} {H : Hp} {E : XK} :
    (cxOf CX P w K mg base N qual scope f cd A outer s H E).Own := ⟨rfl, rfl⟩
theorem leave_fly {P : Program} {w : World} {K : PySem.W.Frag} {mg : Str → Option Value} {base : Heap} {N : List Str} {qual : Str} {scope : Scope} {f : Addr} {cd : Value} {A : Around} {outer : List Env} {s : Shared} {H : Hp} {E : XK} {e : Value} {s1 : Shared}
    (h : FlyW (cxOf (CXf P w) P w K mg base N qual scope f cd A outer s H E) E e s1) : (cxOf (CXf P w) P w K mg base N qual scope f cd A outer s H E).xe e s1 := by
  obtain ⟨a, C, od, H0, H1, σ, rfl, I, f, e7, e8⟩ := h
  show wpAny _ _ (leaving _ _) _ _ s1
  unfold leaving
  refine wpAny_bind (note_fly (X := cxOf (CXf P w) P w K mg base N qual scope _ cd A outer s H E) cxOf_own I.ok.frames I f fun s' H' I' f' => ?_)
  refine fly_set (X := cxOf (CXf P w) P w K mg base N qual scope _ cd A outer s H E) none I' f' fun s'' H'' I'' f'' => ?_
  exact ⟨a, C, od, H0, H'', rfl, I''.os, I''.bare, I''.base, I''.hok, f'', e7, e8⟩
/-- a def that may raise: its body in the context that wishes E of an exception -/
theorem Fun.okx {P : Program} {w : World} {K : PySem.W.Frag} {mg : Str → Option Value} {base : Heap} {x qual : Str} {st : Stmt} {f : Addr} {fd : FuncData} {N ps : List Str} {k : Nat} {sp : Sp} (F : Fun K x qual st f fd) (S : FnScope N ps (defScope st)) (len : ∀ vs H Q E, sp vs H Q E → vs.length = ps.length)
    (hbody : ∀ (cdv : Value) (A : Around) (outer : List Env) (s : Shared) (H : Hp) (vs : List V) (Q : VK) (E : XK), Room k (A.deeper (envOfC qual (defScope st) s.heap.objs.size f cdv)) → sp vs H Q E →
      ∃ t, PSs ((cxOf (CXf P w) P w K mg base N qual (defScope st) f cdv A outer s H E).fly E) (defBody st) t ∧ t { nx := fun _ H' => Q .non H', rt := Q } (start N vs) H) : FnOk P w K mg base (CXf P w) (k + 1) f fd ps sp := by
  obtain ⟨oc, od, kV, doc, pm, an, cdv, ct, osl, rfl, lk, hcd⟩ := F.ex
  refine fn_of lk hcd S len fun A outer s H vs Q E hr hsp => ?_
  obtain ⟨t, h, q⟩ := hbody cdv A outer s H vs Q E hr hsp
  exact ⟨t, fun pins s1 σ H1 D I hw => wpAny_mono (h pins s1 σ H1 D (I.wish _) hw) (fun _ _ q => q.unwish) fun e s2 z => leave_fly z, q⟩
/-! ### raise -/
def tRaise (E : XK) (C : Addr) (te : TE) : TS := fun _ σ H => te σ H fun v H1 => ∃ a od, v = .ref a ∧ H1 a = some (exc C od .none a) ∧ (∀ d, od = some d → d ≠ a) ∧ E (.ref C) od H1
theorem ps_raise {X : Cx} {E : XK} {e : Expr} {te : TE} {C N : Addr} {pos : Pos} (hh : X.A.handled = none) (c : XC X.K C N) (he : PE (X.fly E) e te) : PS (X.fly E) (.Raise (some e) none pos) (tRaise E C te) := by
  intro pins s σ H D I h
  obtain ⟨nm, q, bs, sn, sub, ab, col, dd, k0, k1, k2, k3, k5, cls⟩ := c.obj
  rw [arm_exec_Raise]
  refine wpAny_bind (wpAny_standAt (raiseStmt_inst (C := C) (nm := nm) (q := q) (N := N) (bs := bs) (bm := excMro) (hdct := true) (sn := sn) (sub := sub) (ab := ab) (col := col) (dd := dd) (k0 := k0) (k1 := k1) (k2 := k2) (k3 := k3) (k5 := k5) (newId := "Exception.__new__") (by decide) hh
    (wpAny_bind (thn (he pins s σ H _ I h) fun u s1 ⟨v, H1, I1, rv, a, od, ev, ha, hd, xr⟩ => wpAny_bind (wpAny_standAt (wpAny_pure ?_))))))
  subst ev
  obtain rfl : u = Value.ref a := rv
  obtain ⟨o, ge, q1, q2, vs, q3, q4⟩ := one_at I1.hok ha
  exact ⟨a, o, vs, rfl, (cls _ I1.kIn).1, ge, q1, q3, q4, a, C, od, H1, H1, σ, rfl, I1.unwish.bare_pins, ⟨.none, ha, fun b o e _ => e, .inl rfl⟩, hd, xr⟩
end L2
end
section
set_option Elab.async false
set_option linter.all false
set_option maxRecDepth 100000
set_option maxHeartbeats 2000000
namespace L2
open PySem PySem.Spec PyProof.Rows PySem.XL
/-- the heap changes at things told by their one object, the frames stay -/
theorem Inv.extd {X : Cx} {pins : List (Addr × Obj)} {σ : St} {H H2 : Hp} {s : Shared} {h2 : Heap} {t2 : Nat} (S : List Addr) (I : Inv X pins σ H s) (same : ∀ b, b ∉ S → H2 b = H b)
    (old : ∀ b, b ∈ S → (H b = none ∧ s.heap.get? b = none) ∨ ∃ φ, H b = some (.ext φ)) (new : ∀ b, b ∈ S → ∀ u, H2 b = some u → ObjOk X.prog X.w H2 h2 b u)
    (keep : ∀ b o, b ∉ S → s.heap.get? b = some o → h2.get? b = some o) (there : ∀ b, b ∈ S → ∀ o, s.heap.get? b = some o → ∃ o', h2.get? b = some o') : Inv X pins σ H2 { s with heap := h2, toks := t2 } :=
  I.call' (s' := { s with heap := h2, toks := t2 }) (ch := []) rfl (un_ext S same old (fun b o nb _ g => keep b o nb g) (fun b o nb _ g => ⟨o.slots, keep b o nb g⟩) there)
    (hok_ext S I.hok same (fun b hb => (old b hb).imp (·.1) id) new fun b o u _ nb g => keep b o nb g) I.bare (fun b z => absurd z (by simp))
theorem xc_ns {K : PySem.W.Frag} {C N : Addr} (c : XC K C N) : PySem.W.nsOkIn K N = true := by
  have e := c.cl
  unfold xcIn at e
  split at e
  · split at e
    · split at e
      · rename_i q
        simp only [Bool.and_eq_true, beq_iff_eq, Bool.not_eq_true'] at q
        rw [← Option.some.inj e]
        exact q.2.2.2.2.2
      · cases e
    · cases e
  · cases e
section
variable {X : Cx} {CX : CXT} {k : Nat} {f C N : Addr} {fd : FuncData} {ps : List Str} {sp : Sp} {dvs : List V} {ds : List Value} {E : XK} {x m : Str} {p pos apos : Pos} {e o : Expr} {es : List Expr} {ta tv te : TE} {t : TA}
theorem in_fn {K : PySem.W.Frag} {h : Heap} {f : Addr} (XK : K.In h) (hf : PySem.W.isFn K (.ref f) = true) : ∃ o, h.get? f = some o ∧ o.cls = .type "function" := by
  have e : PySem.W.typeIn K (.ref f) = some (.type "function") := beq_iff_eq.mp hf
  unfold PySem.W.typeIn at e
  cases q : K.lookup f with
  | none =>
    simp only [q] at e
    cases e
  | some o =>
    simp only [q] at e
    exact ⟨o, XK _ _ q, Option.some.inj e⟩
/-- C(..) of an own exception class with an __init__ of its own -/
def tMkx (C : Addr) (sp : Sp) (dvs : List V) (E : XK) (t : TA) : TE := fun σ H Q => t σ H fun vs H1 => vs.length ≤ sizeLine ∧ ∀ x, H1 x = none →
  sp (.ref x :: (vs ++ dvs)) (upd H1 x (exc C none .none x)) (fun v H2 => v = .non ∧ Q (.ref x) H2) E
theorem run_mkx {pins : List (Addr × Obj)} {σ : St} {H : Hp} {s : Shared} {Q : VK} {us : List Value} {vs : List V} (c : XC X.K C N) (mI : PySem.W.nsIn X.K N "__init__" = some (some (.ref f))) (fn : PySem.W.isFn X.K (.ref f) = true) (F : FnOk X.prog X.w X.K X.mg X.base CX k f fd ps sp) (hr : Room (k + 1) X.A) (hb : Binds X.K fd ps ds) (hd : Vals dvs ds)
    (hx : Passes CX X E) (I : Inv X pins σ H s) (r : Vals vs us) (hl0 : vs.length ≤ sizeLine)
    (h : ∀ x, H x = none → sp (.ref x :: (vs ++ dvs)) (upd H x (exc C none .none x)) (fun v H2 => v = .non ∧ Q (.ref x) H2) E) :
    wpAny (model X.prog X.w) X.A (call (.ref C) us) (EP X pins σ Q) X.xe s := by
  obtain ⟨nm, q, bs, sn, sub, ab, col, dd, k0, k1, k2, k3, k5, cls⟩ := c.obj
  obtain ⟨c1, c2, _⟩ := cls s.heap I.kIn
  obtain ⟨oF, gF, cF⟩ := in_fn I.kIn fn
  have hni := ns_some_of I.kIn c2 mI
  have hq := h (s.heap.objs.size + 1) (I.hok.fresh (Nat.le_succ _))
  have g2 : ((s.heap.push (tupNew us)).push (excNew C s.heap.objs.size)).get? (s.heap.objs.size + 1) = some (excNew C s.heap.objs.size) := by
    have z := Heap.get?_push_size (s.heap.push (tupNew us)) (o := excNew C s.heap.objs.size) rfl
    rw [Heap.size_push] at z
    exact z
  have I2 : Inv X pins σ (upd H (s.heap.objs.size + 1) (exc C none .none (s.heap.objs.size + 1))) { s with heap := (s.heap.push (tupNew us)).push (excNew C s.heap.objs.size) } :=
    I.laid (t' := s.toks) (fun b u q => Heap.get?_push_of_some _ (Heap.get?_push_of_some _ q)) (Nat.le_succ _) (one_ok g2 ⟨rfl, rfl, _, rfl, rfl⟩)
  have r2 : Vals (V.ref (s.heap.objs.size + 1) :: (vs ++ dvs)) (Value.ref (s.heap.objs.size + 1) :: (us ++ ds)) := .cons rfl (r.append hd)
  have hl : (Value.ref (s.heap.objs.size + 1) :: us ++ ds).length = ps.length := by
    have e := r2.length
    rw [F.len _ _ _ _ hq] at e
    exact e.symm
  obtain ⟨hh, g, d, tk, os⟩ := s
  refine wpAny_call (call_exc_init PySem.F.excBase_Exception c1 c2 hni gF cF (codeAny_mono (F.run _ X.stack _ _ ⟨Value.ref (hh.objs.size + 1) :: us, []⟩ (Value.ref (hh.objs.size + 1) :: (us ++ ds)) _ _ E (hr.make C us [])
    (I2.env0.make C us []) (hb _ (Value.ref (hh.objs.size + 1) :: us) I2.kIn hl) r2 hq) fun r s' hq' => ?_) (by rw [← r.length]; exact hl0))
  cases r with
  | error e => exact hx pins σ _ _ e s' I2 hq'
  | ok fl =>
    cases fl with
    | ret u =>
      obtain ⟨v, H', I3, rv, ev, q3⟩ := I2.after hq'
      subst ev
      exact ⟨rv, ⟨V.ref (hh.objs.size + 1), H', I3, rfl, q3⟩⟩
    | next => exact False.elim hq'
    | brk => exact False.elim hq'
    | cont => exact False.elim hq'
theorem pe_mkx (c : XC X.K C N) (mI : PySem.W.nsIn X.K N "__init__" = some (some (.ref f))) (fn : PySem.W.isFn X.K (.ref f) = true) (kp : PySem.W.keepIn X.K (.ref C) = true) (F : FnOk X.prog X.w X.K X.mg X.base CX k f fd ps sp) (hr : Room (k + 1) X.A) (hg : Gl X x) (hm : X.mg x = some (.ref C)) (hb : Binds X.K fd ps ds) (hd : Vals dvs ds) (hx : Passes CX X E)
    (ha : PA X (e :: es) t) (hdb : (x == ("__debug__" : Str)) = false := by decide) (he : starEach (e :: es) X.env = (false, eval e X.env) :: starEach es X.env := by rfl) (hpl : (backTo pos (starEach es X.env)).any (·.1) = false := by rfl) :
    PE X (.Call (.Name x p) (e :: es) [] pos) (tMkx C sp dvs E t) := by
  intro pins s σ H Q I h
  refine wpAny_Call_Name_kw (ld_glob I hg hm ?_ hdb)
  refine PySem.W.callWith_K (h₀ := X.base) I.ok.mod.kin kp (thn (ha pos pins s σ H _ I h) fun us s1 ⟨vs, H1, I1, r, q⟩ => ⟨I1.kIn, ?_⟩) he hpl
  exact run_mkx c mI fn F hr hb hd hx I1 r q.1 q.2
/-! ### Exception.__init__(self) -/
def tXinit (K : PySem.W.Frag) (t : TA) : TE := fun σ H Q => t σ H fun vs H1 => ∃ a C N od tv, vs = [.ref a] ∧ H1 a = some (exc C od tv a) ∧ XC K C N ∧ Q .non H1
theorem pe_xinit {pl : Sem Bool} (hg : Gl X "Exception") (hm : X.mg "Exception" = none) (hf : PySem.W.findCls X.K (.type "Exception") (.type "type") "__init__" = some (.val (.builtin "Exception.__init__"))) (ha : PA X (e :: es) t)
    (hty : typeOf (.type "Exception") = pure (.type "type")) (hst : Manifest.isStub "Exception" = false) (hbv : bootBuiltins "Exception" = some (.type "Exception"))
    (he : starEach (e :: es) X.env = (false, eval e X.env) :: starEach es X.env := by rfl) (hpl : (backTo pos (starEach es X.env)).any (·.1) = false := by rfl)
    (ht : eval (.Call (.Attribute (.Name "Exception" p) "__init__" apos) (e :: es) [] pos) X.env = (do
      let ov ← eval (.Name "Exception" p) X.env
      standAt apos.atName
      let (f, first) ← holding [ov] (getMethod ov "__init__" pl)
      callWith pos f first (backTo pos (starEach (e :: es) X.env)) (backToKw pos (keywordEach [] X.env))) := by rfl) :
    PE X (.Call (.Attribute (.Name "Exception" p) "__init__" apos) (e :: es) [] pos) (tXinit X.K t) := by
  intro pins s σ H Q I h
  refine PySem.W.methodCall_KW (pl := pl) (ld_blt I hg hm hbv ?_) ht
  obtain ⟨m, F⟩ := I.fr
  refine PySem.W.method_type F I.ok.mod.kin hty hst hf (by rfl) ?_
  refine PyProof.Rows.callWith_builtin1 (thn (ha pos pins _ σ H _ (I.tok _) h) fun us s1 ⟨vs, H1, I1, r1, a, C, N, od, tv, ev, ha', c, q⟩ => ?_) he hpl
  subst ev
  obtain ⟨u, rfl, ru⟩ := vals1 r1
  cases ru
  obtain ⟨nm, qn, bs, sn, sub, ab, col, dd, k0, k1, k2, k3, k5, cls⟩ := c.obj
  obtain ⟨c1, c2, _⟩ := cls s1.heap I1.kIn
  obtain ⟨o, ge, q1, q2, vs', q3, q4⟩ := one_at I1.hok ha'
  have zz : 1 < vs'.size := (Array.getElem?_eq_some_iff.mp q4).1
  obtain ⟨hh, g, d, tk, os⟩ := s1
  refine init_call PySem.F.excBase_Exception c1 ge q1 q3 (by omega) ?_
  have gp := Heap.get?_push_of_some (h := hh) (tupNew []) ge
  have gx : ((hh.push (tupNew [])).update a (Obj.mapFields (·.setIfInBounds 0 (.ref hh.objs.size)))).get? a = _ := Heap.get?_update_self _ gp (Obj.isFreed_of_fields (Obj.data_mapFields q3 _))
  refine ⟨.non, H1, I1.extd (t2 := tk) [a] (fun b _ => rfl) (fun b hb => ?_) (fun b hb u hu => ?_) (fun b o nb g => ?_) fun b hb o g => ?_, rfl, q⟩
  · have : b = a := by simpa using hb
    subst this
    exact .inr (ext_one ha')
  · have : b = a := by simpa using hb
    subst this
    rw [ha'] at hu
    cases hu
    refine one_ok gx ⟨(Obj.cls_mapFields _ _).trans q1, ?_, _, Obj.data_mapFields q3 _, ?_⟩
    · obtain ⟨cc, cd, dt, sl⟩ := o
      cases dt <;> first | exact q2 | cases q3
    · rw [Array.getElem?_setIfInBounds_ne (by decide)]
      exact q4
  · have : b ≠ a := by simpa using nb
    rw [Heap.get?_update_other _ _ (Ne.symm this)]
    exact Heap.get?_push_of_some _ g
  · have : b = a := by simpa using hb
    subst this
    exact ⟨_, gx⟩
/-! ### attributes of an exception -/
def tXfld (K : PySem.W.Frag) (ta : TE) (g : Str) : TE := fun σ H Q => ta σ H fun v H1 => ∃ a C N d tv fs y, v = .ref a ∧ H1 a = some (exc C (some d) tv a) ∧ d ≠ a ∧ H1 d = some (xdc d fs) ∧ XC K C N ∧ XNo K N g ∧ fs.lookup g = some y ∧ Q y H1
theorem pe_xfld {g : Str} (he : PE X e ta) (hb : attributeBase e g X.env (eval e X.env) = eval e X.env) : PE X (.Attribute e g pos) (tXfld X.K ta g) := by
  intro pins s σ H Q I h
  refine attr_of hb (thn (he pins s σ H _ I h) fun u s1 ⟨x, H1, I1, rx, a, C, N, d, tv, fs, y, ex, ea, ne, ed, c, n, l, q⟩ => ?_)
  subst ex
  obtain rfl : u = Value.ref a := rx
  obtain ⟨nm, qn, bs, sn, sub, ab, col, dd, k0, k1, k2, k3, k5, cls⟩ := c.obj
  obtain ⟨c1, c2, c3, c4, c5⟩ := cls s1.heap I1.kIn
  obtain ⟨o, ge, q1, q2, vs', q3, q4⟩ := one_at I1.hok ea
  obtain ⟨mA, nA, rA, wA, lA⟩ := xdc_at I1.hok ed
  obtain ⟨u, hu, ru⟩ := RelO.some_of (v := y) (o := mA g) (by rw [← l]; exact rA g)
  have hna : s1.heap.nsMap N g = none := PySem.W.nsMap_none_of_in I1.kIn (xc_ns c) n.own
  obtain ⟨hh, gg, dr, tk, os⟩ := s1
  exact load_attr PySem.F.attrBase_Exception c1 c2 c3 c4 hna n.base ⟨o, ge, q1, fun c z => (by rw [q3] at z; cases z), .inr ⟨d, q2, ne, nA⟩⟩ hu (PySem.W.handedOut_of (handed_of ru)) ⟨y, H1, I1.tok _, ru, q⟩
/-- e.g = value, the first attribute -/
def sXfld1 (K : PySem.W.Frag) (ta tv : TE) (g : Str) : TS := fun D σ H => tv σ H fun y H1 => ta σ H1 fun v H2 => ∃ a C N te, v = .ref a ∧ H2 a = some (exc C none te a) ∧ XC K C N ∧ XNo K N g ∧
  ∀ d, H2 d = none → d ≠ a → D.nx σ (upd (upd H2 a (exc C (some d) te a)) d (xdc d (putF g y [])))
theorem ps_xfld1 {g : Str} {value : Expr} {pos' : Pos} (ha : PE X o ta) (hv : PE X value tv) (hs : swapsWith value (some (.Attribute o g pos')) pos.line X.env = pure false) : PS X (.Assign [.Attribute o g pos'] value pos) (sXfld1 X.K ta tv g) := by
  intro pins s σ H D I h
  refine plainObj_wpAny_Assign_Attribute (thn (hv pins s σ H _ I h) fun u s1 ⟨y, H1, I1, ry, q⟩ => thn (ha pins s1 σ H1 _ I1 q) fun ov s2 ⟨x, H2, I2, rx, a, C, N, te, ex, ea, c, n, q2⟩ => ?_) hs
  subst ex
  obtain rfl : ov = Value.ref a := rx
  obtain ⟨nm, qn, bs, sn, sub, ab, col, dd, k0, k1, k2, k3, k5, cls⟩ := c.obj
  obtain ⟨c1, c2, c3, c4, c5⟩ := cls s2.heap I2.kIn
  obtain ⟨o, ge, p1, p2, vs', p3, p4⟩ := one_at I2.hok ea
  have hna : s2.heap.nsMap N g = none := PySem.W.nsMap_none_of_in I2.kIn (xc_ns c) n.own
  obtain ⟨hh, gg, dr, tk, os⟩ := s2
  refine first_attr PySem.F.store_Exception c1 c2 c5 hna n.base ge p1 (fun c z => (by rw [p3] at z; cases z)) p2 fun h' tk' w1 w2 w3 => ?_
  have dn : H2 hh.objs.size = none := I2.hok.fresh (Nat.le_refl _)
  have da : hh.objs.size ≠ a := Nat.ne_of_gt (Heap.lt_size ge)
  have e1 : (upd (upd H2 a (exc C (some hh.objs.size) te a)) hh.objs.size (xdc hh.objs.size (putF g y []))) a = some (exc C (some hh.objs.size) te a) := by rw [upd_ne (Ne.symm da), upd_same]
  refine ⟨σ, _, I2.extd (h2 := h') (t2 := tk') [a, hh.objs.size] (fun b nb => ?_) (fun b hb => ?_) (fun b hb u' hu => ?_) (fun b o nb g => ?_) (fun b hb o g => ?_), q2 hh.objs.size dn da⟩
  · have : b ≠ a ∧ b ≠ hh.objs.size := by simpa using nb
    rw [upd_ne this.2, upd_ne this.1]
  · have : b = a ∨ b = hh.objs.size := by simpa using hb
    rcases this with rfl | rfl
    · exact .inr (ext_one ea)
    · exact .inl ⟨dn, Heap.get?_none_of_le (Nat.le_refl _)⟩
  · have : b = a ∨ b = hh.objs.size := by simpa using hb
    rcases this with rfl | rfl
    · rw [e1] at hu
      cases hu
      exact one_ok w2 ⟨p1, rfl, vs', p3, p4⟩
    · rw [upd_same] at hu
      cases hu
      refine xdc_ok w1 (fun f => ?_) (fun z hz => ?_) (by show 1 ≤ 1000; decide)
      · rw [lookup_putF]
        by_cases e : f = g
        · rw [if_pos e, if_pos e]; exact ry
        · rw [if_neg e, if_neg e]; exact True.intro
      · by_cases e : z = g
        · rw [e]
          exact (keys_putF g y []).1
        · rw [if_neg e] at hz
          exact absurd rfl hz
  · have : b ≠ a ∧ b ≠ hh.objs.size := by simpa using nb
    exact w3 b o this.1 g
  · have : b = a ∨ b = hh.objs.size := by simpa using hb
    rcases this with rfl | rfl
    · exact ⟨_, w2⟩
    · exact absurd (Heap.lt_size g) (Nat.lt_irrefl _)
/-- a further one -/
def sXfld2 (K : PySem.W.Frag) (ta tv : TE) (g : Str) : TS := fun D σ H => tv σ H fun y H1 => ta σ H1 fun v H2 => ∃ a C N d te fs, v = .ref a ∧ H2 a = some (exc C (some d) te a) ∧ d ≠ a ∧ H2 d = some (xdc d fs) ∧ fs.length < 1000 ∧ XC K C N ∧ XNo K N g ∧
  D.nx σ (upd H2 d (xdc d (putF g y fs)))
theorem ps_xfld2 {g : Str} {value : Expr} {pos' : Pos} (ha : PE X o ta) (hv : PE X value tv) (hs : swapsWith value (some (.Attribute o g pos')) pos.line X.env = pure false) : PS X (.Assign [.Attribute o g pos'] value pos) (sXfld2 X.K ta tv g) := by
  intro pins s σ H D I h
  refine plainObj_wpAny_Assign_Attribute (thn (hv pins s σ H _ I h) fun u s1 ⟨y, H1, I1, ry, q⟩ => thn (ha pins s1 σ H1 _ I1 q) fun ov s2 ⟨x, H2, I2, rx, a, C, N, d, te, fs, ex, ea, ne, ed, fl, c, n, q2⟩ => ?_) hs
  subst ex
  obtain rfl : ov = Value.ref a := rx
  obtain ⟨nm, qn, bs, sn, sub, ab, col, dd, k0, k1, k2, k3, k5, cls⟩ := c.obj
  obtain ⟨c1, c2, c3, c4, c5⟩ := cls s2.heap I2.kIn
  obtain ⟨o, ge, p1, p2, vs', p3, p4⟩ := one_at I2.hok ea
  obtain ⟨mA, nA, rA, wA, lA⟩ := xdc_at I2.hok ed
  have hna : s2.heap.nsMap N g = none := PySem.W.nsMap_none_of_in I2.kIn (xc_ns c) n.own
  have aC : a ≠ C := fun z => by
    rw [z, c1] at ge
    cases ge
    cases p3
  obtain ⟨hh, gg, dr, tk, os⟩ := s2
  have lz : (fs.map (·.1)).length ≤ sizeLine := by rw [List.length_map, sizeLine_eq]; omega
  refine next_attr PySem.F.store_Exception c1 c2 c5 hna n.base ge p1 (fun c z => (by rw [p3] at z; cases z)) p2 ne nA wA lz aC fun h' tk' w1 w3 => ?_
  refine ⟨σ, _, I2.extd (h2 := h') (t2 := tk') [d] (fun b nb => ?_) (fun b hb => ?_) (fun b hb u' hu => ?_) (fun b o nb g => ?_) (fun b hb o g => ?_), q2⟩
  · have : b ≠ d := by simpa using nb
    rw [upd_ne this]
  · have : b = d := by simpa using hb
    subst this
    exact .inr ⟨_, ed⟩
  · have : b = d := by simpa using hb
    subst this
    rw [upd_same] at hu
    cases hu
    refine xdc_ok w1 (fun f => ?_) (fun z hz => ?_) (Nat.le_trans (length_putF g y fs) fl)
    · rw [lookup_putF]
      by_cases e : f = g
      · rw [if_pos e, if_pos e]; exact ry
      · rw [if_neg e, if_neg e]; exact rA f
    · by_cases e : z = g
      · rw [e]
        exact (keys_putF g y fs).1
      · rw [if_neg e] at hz
        exact (keys_putF g y fs).2 z (wA z hz)
  · have : b ≠ d := by simpa using nb
    exact w3 b o this g
  · have : b = d := by simpa using hb
    subst this
    obtain ⟨o', _, _, e', _⟩ := w1
    exact ⟨o', e'⟩
end
end L2
end
section
set_option Elab.async false
set_option linter.all false
set_option maxRecDepth 100000
set_option maxHeartbeats 2000000
namespace L2
open PySem PySem.Spec PyProof.Rows PySem.XL
/-! ### within an except suite -/
abbrev Cx.inX (X : Cx) (a : Addr) : Cx := { X with A := X.A.mark (some (.ref a)), calm := false, xe := fun _ _ => False }
theorem Cx.Ok.inX {X : Cx} (ok : X.Ok) (a : Addr) : (X.inX a).Ok :=
  ⟨ok.mod, ok.kind, ok.glob, ok.blt, ok.above, ok.inj, ok.has, ok.cab, fun h => (by cases h), ok.frames, ok.stk, ok.exf, ok.bs, ok.bsz, ok.noex, ok.exfs, ok.funs, ok.frf⟩
theorem Inv.inX {X : Cx} {pins : List (Addr × Obj)} {σ : St} {H : Hp} {s : Shared} (I : Inv X pins σ H s) (a : Addr) : Inv (X.inX a) pins σ H s := ⟨I.ok.inX a, I.os, I.bare, I.base, I.loc, I.cell, I.free, I.freeC, I.pin, I.hok, I.len⟩
theorem Inv.outX {X : Cx} {pins : List (Addr × Obj)} {σ : St} {H : Hp} {s : Shared} {a : Addr} (ok : X.Ok) (I : Inv (X.inX a) pins σ H s) : Inv X pins σ H s := ⟨ok, I.os, I.bare, I.base, I.loc, I.cell, I.free, I.freeC, I.pin, I.hok, I.len⟩
/-- a local name goes -/
theorem Inv.gone {X : Cx} {pins : List (Addr × Obj)} {σ : St} {H : Hp} {s : Shared} {h' : Heap} {t' i : Nat} {x : Str} {m : Str → Option Value} {v : Option Value} (I : Inv X pins σ H s) (hN : X.N.Nodup) (hi : X.N[i]? = some x) (hl : X.env.scope.names.lookup x = some .local)
    (hm : s.heap.Ns X.env.locals m ∧ ∀ (i : Nat) (y : Str) (v : V), X.N[i]? = some y → σ[i]? = some (some v) → Vis X.env.scope y → ∃ u, RelV v u ∧ Look X.env s.heap m y u)
    (hn : h'.Ns X.env.locals (fun y => if y = x then v else m y)) (hs : Heap.SameBut X.env.locals s.heap h') : Inv X pins (σ.set i none) H { s with heap := h', toks := t' } := by
  have cne := I.cne
  obtain ⟨hmn, hml⟩ := hm
  obtain ⟨oL, _, _, hoL, _⟩ := id hmn
  have hiσ : i < σ.length := by rw [I.len]; exact (List.getElem?_eq_some_iff.mp hi).1
  have hok : HOk X.prog X.w H h' := fun b ob e => by
    refine (I.hok b ob e).stay (fun c w' hc q => (hs.2 c ?_).trans q) (fun _ q => q) fun _ _ q => q
    rintro rfl
    rcases hc with rfl | hc
    · rw [I.free] at e; cases e
    · rw [I.free] at hc; cases hc
  refine ⟨I.ok, I.os, I.bare, ⟨fun b o e n hb hx => ?_, fun b o e n hb hx => ?_, I.base.free, fun b o e hx => ?_, I.base.tups, I.base.frzs, I.base.tbls⟩, ⟨_, hn, fun j y v' e1 e2 e3 => ?_⟩, fun y c e => ?_, I.free, I.freeC, fun p hp => ?_, hok, by simpa using I.len⟩
  · exact (hs.2 b (Nat.ne_of_lt (Nat.lt_of_lt_of_le (Heap.lt_size e) I.ok.above))).trans (I.base.keep b o e n hb hx)
  · obtain ⟨sl, e1⟩ := I.base.slot b o e n hb hx
    exact ⟨sl, (hs.2 b (Nat.ne_of_lt (Nat.lt_of_lt_of_le (Heap.lt_size e) I.ok.above))).trans e1⟩
  · obtain ⟨o', e1⟩ := I.base.there b o e hx
    exact ⟨o', (hs.2 b (Nat.ne_of_lt (Nat.lt_of_lt_of_le (Heap.lt_size e) I.ok.above))).trans e1⟩
  · by_cases hj : j = i
    · subst hj
      rw [List.getElem?_set_self hiσ] at e2
      cases e2
    · rw [List.getElem?_set_ne (Ne.symm hj)] at e2
      obtain ⟨u', r', q⟩ := hml j y v' e1 e2 e3
      refine ⟨u', r', ?_⟩
      rcases q with ⟨k, e⟩ | ⟨k, c, e, z⟩
      · refine .inl ⟨k, ?_⟩
        have : y ≠ x := fun e => hj (nodup_ix hN e1 (e ▸ hi))
        simp [this, e]
      · exact .inr ⟨k, c, e, z.sameBut hs (cne y c e)⟩
  · obtain ⟨w', z⟩ := I.cell y c e
    exact ⟨w', z.sameBut hs (cne y c e)⟩
  · obtain ⟨e, n, ne, nf, d⟩ := I.pin p hp
    exact ⟨(hs.2 p.1 ne).trans e, n, ne, nf, d⟩
theorem name_goes {X : Cx} {A : Around} {E : Value → Shared → Prop} {pins : List (Addr × Obj)} {σ : St} {H : Hp} {s : Shared} {i : Nat} {x : Str} {pos : Pos} {Q : Unit → Shared → Prop} (I : Inv X pins σ H s) (hN : X.N.Nodup) (hi : X.N[i]? = some x) (hl : X.env.scope.names.lookup x = some .local)
    (k : ∀ s', Inv X pins (σ.set i none) H s' → Q () s') : wpAny (model X.prog X.w) A (do bindName X.env x .none; unbindBehindTheSuite X.env x pos) Q E s := by
  obtain ⟨m, hm⟩ := I.loc
  exact wpAny_nameGoes_keeps hl hm.1 (by rw [I.ok.kind]; rfl) fun h' v hn hs => k _ (I.gone hN hi hl hm hn hs)
/-! ### does a clause take it -/
theorem matches_other {M : Model} {A : Around} {E : Value → Shared → Prop} {nm q nm' q' : Str} {C N C1 N1 : Addr} {bs bs' : List Value} {hdct hdct' : Bool} {sn sn' : List Str} {sub sub' : List Value} {ab ab' : Bool} {col col' : Option Bool} {dd dd' : Option Addr} {k0 k1 k2 k3 k5 k0' k1' k2' k3' k5' : Option Value} {newId newId' : String}
    {h : Heap} {g : Array GenState} {d : Drawn} {t : Nat} {os : OsState} {e : Addr} {oe : Obj} {Q : Bool → Shared → Prop}
    (hC : h.get? C = some (excClassObj nm q C N bs excMro hdct sn sub ab col dd k0 k1 k2 k3 k5 newId)) (hC1 : h.get? C1 = some (excClassObj nm' q' C1 N1 bs' excMro hdct' sn' sub' ab' col' dd' k0' k1' k2' k3' k5' newId'))
    (he : h.get? e = some oe) (hcls : oe.cls = .ref C) (ne : C ≠ C1)
    (hq : Q false ⟨h, g, d, t, os⟩) : wpAny M A (excMatches (.ref e) (.ref C1)) Q E ⟨h, g, d, t, os⟩ := by
  have hcB : (Value.ref C1 :: excMro).contains (.type "BaseException") = true := by rw [List.contains_cons, show excMro.contains (.type "BaseException") = true by decide, Bool.or_true]
  have hcC : (Value.ref C :: excMro).contains (.ref C1) = false := by
    have : (Value.ref C1 == Value.ref C) = false := beq_eq_false_iff_ne.mpr fun z => ne (by cases z; rfl)
    rw [List.contains_cons, this]
    rfl
  have f := tc_notTuple
  unfold excMatches
  repeat (first | (with_reducible refine wpAny_loadPart_at he ?_; rw [hcls]) | with_reducible refine wpAny_loadPart_at hC1 ?_ | with_reducible refine wpAny_loadPart_at hC ?_ | (with_reducible refine wpAny_isSubtype_exc hC1 ?_; rw [hcB]) | (with_reducible refine wpAny_isSubtype_exc hC ?_; rw [hcC]) | wp_step)
  exact hq
/-! ### clauses -/
abbrev TH := Hp → Addr → Addr → Option Addr → TS
def PH (X : Cx) (hds : List ExceptHandler) (th : TH) : Prop :=
  ∀ (pins : List (Addr × Obj)) (s : Shared) (σ : St) (H H0 : Hp) (a C N : Addr) (od : Option Addr) (D : Ends), Inv X pins σ H s → XC X.K C N → FlyOn .none H0 a C od H → th H0 a C od D σ H →
    wpAny (model X.prog X.w) X.A (handleBy (.ref a) X.env hds) (SP X pins D) X.xe s
def hNil : TH := fun _ _ _ _ _ _ _ => False
theorem ph_nil {X : Cx} : PH X [] hNil := fun _ _ _ _ _ _ _ _ _ _ _ _ _ h => h.elim
theorem SP.outX {X : Cx} {a : Addr} {pins : List (Addr × Obj)} {D : Ends} {f : Flow} {s' : Shared} (ok : X.Ok) (h : SP (X.inX a) pins D f s') : SP X pins D f s' := by
  cases f with
  | next => obtain ⟨σ', H', I, q⟩ := h; exact ⟨σ', H', I.outX ok, q⟩
  | brk => obtain ⟨σ', H', I, q⟩ := h; exact ⟨σ', H', I.outX ok, q⟩
  | cont => obtain ⟨σ', H', I, q⟩ := h; exact ⟨σ', H', I.outX ok, q⟩
  | ret u => obtain ⟨v, σ', H', I, r, q⟩ := h; exact ⟨v, σ', H', I.outX ok, r, q⟩
section
variable {X : Cx} {C1 N1 : Addr} {x : Str} {p pos : Pos} {b0 : Stmt} {suite : List Stmt} {rest : List ExceptHandler} {ts : TS} {th : TH}
/-- except C as name -/
def hConsN (C1 : Addr) (i : Nat) (ts : TS) (th : TH) : TH := fun H0 a C od D σ H => (C = C1 → ∀ H', FlyOn .none H0 a C od H' →
    ts { nx := fun σ' H'' => D.nx (σ'.set i none) H'', rt := D.rt, bk := fun σ' H'' => D.bk (σ'.set i none) H'', ct := fun σ' H'' => D.ct (σ'.set i none) H'' } (σ.set i (some (.ref a))) H') ∧ (C ≠ C1 → th H0 a C od D σ H)
theorem ph_consN {i : Nat} {y : Str} (c1 : XC X.K C1 N1) (hg : Gl X x) (hm : X.mg x = some (.ref C1)) (hN : X.N.Nodup) (hi : X.N[i]? = some y) (hl : X.env.scope.names.lookup y = some .local) (hs : ∀ a, PSs (X.inX a) (b0 :: suite) ts) (hr : PH X rest th) (hdb : (x == ("__debug__" : Str)) = false := by decide) :
    PH X (.ExceptHandler (some (.Name x p)) (some y) (b0 :: suite) pos :: rest) (hConsN C1 i ts th) := by
  intro pins s σ H H0 a C N od D I c f h
  refine wpAny_handleBy_cons (codeAny_handlers_test (ld_glob (X := X.inX a) (I.inX a) hg hm ?_ hdb)) (by intro q; cases q)
  obtain ⟨nm, qn, bs, sn, sub, ab, col, dd, k0, k1, k2, k3, k5, cls⟩ := c.obj
  obtain ⟨nm', qn', bs', sn', sub', ab', col', dd', k0', k1', k2', k3', k5', cls'⟩ := c1.obj
  obtain ⟨d1, _⟩ := cls s.heap I.kIn
  obtain ⟨d2, _⟩ := cls' s.heap I.kIn
  obtain ⟨T, ha, kp, ne, kpT, hT⟩ := id f
  obtain ⟨o, ge, q1, q2, vs', q3, q4⟩ := one_at I.hok ha
  by_cases e : C = C1
  · subst e
    obtain ⟨hh, g, d, tk, os⟩ := s
    refine wpAny_excMatches_sub_self d1 ge q1 (by decide) ?_
    refine codeAny_handlers_suite_as ?_
    refine fly_set (X := X) none I f fun s' H' I' f' => ?_
    refine store_ok I' hN hi (.inl hl) (v := .ref a) rfl (fun s2 I2 => ?_) (.inr hl)
    refine wpAny_mono (hs a pins s2 _ H' _ (I2.inX a) (h.1 rfl H' f')) (fun fl s3 q => ?_) fun _ _ z => False.elim z
    have q := q.outX I2.ok
    cases fl with
    | next => obtain ⟨σ', H'', I3, z⟩ := q; exact name_goes I3 hN hi hl fun s4 I4 => ⟨_, _, I4, z⟩
    | brk => obtain ⟨σ', H'', I3, z⟩ := q; exact name_goes I3 hN hi hl fun s4 I4 => ⟨_, _, I4, z⟩
    | cont => obtain ⟨σ', H'', I3, z⟩ := q; exact name_goes I3 hN hi hl fun s4 I4 => ⟨_, _, I4, z⟩
    | ret u => obtain ⟨v, σ', H'', I3, r, z⟩ := q; exact name_goes I3 hN hi hl fun s4 I4 => ⟨v, _, _, I4, r, z⟩
  · obtain ⟨hh, g, d, tk, os⟩ := s
    refine matches_other d1 d2 ge q1 e ?_
    exact hr pins _ σ H H0 a C N od D I c f (h.2 e)
end
/-! ### try -/
def PSx (X : Cx) (body : List Stmt) (tb : XK → TS) : Prop :=
  ∀ (pins : List (Addr × Obj)) (s : Shared) (σ : St) (H : Hp) (D : Ends) (E : XK), Inv X pins σ H s → tb E D σ H → wpAny (model X.prog X.w) X.A (execs body X.env) (SP X pins D)
    (fun e s' => ∃ a C od H0 H', e = .ref a ∧ Inv X pins σ H' s' ∧ FlyOn .none H0 a C od H' ∧ (∀ d, od = some d → d ≠ a) ∧ E (.ref C) od H0) s
/-- what is wanted of an exception that the clauses take: its class is an own one -/
def eTry (K : PySem.W.Frag) (th : TH) (D : Ends) (σ : St) : XK := fun cv od H0 => ∃ C N, cv = .ref C ∧ XC K C N ∧ ∀ a H', (∀ d, od = some d → d ≠ a) → FlyOn .none H0 a C od H' → th H0 a C od D σ H'
def tTry (K : PySem.W.Frag) (tb : XK → TS) (th : TH) : TS := fun D σ H => tb (eTry K th D σ) D σ H
theorem ps_try {X : Cx} {body : List Stmt} {h0 : ExceptHandler} {hs : List ExceptHandler} {pos : Pos} {tb : XK → TS} {th : TH} (ow : X.Own) (hb : PSx X body tb) (hh : PH X (h0 :: hs) th) : PS X (.Try body (h0 :: hs) [] [] pos) (tTry X.K tb th) := by
  intro pins s σ H D I h
  refine wpAny_Try_except (wpAny_mono (hb pins s σ H D _ I h) (fun f s1 q => ?_) fun e s1 q => ?_)
  · cases f with
    | next => exact wpAny_execs_nil q
    | brk => exact q
    | cont => exact q
    | ret v => exact q
  · obtain ⟨a, C, od, H0, H1, rfl, I1, f1, hd, C', N, ec, c, hk⟩ := q
    cases ec
    refine note_fly ow I1.ok.frames I1 (f1.at_ (.inl rfl)) fun s2 H2 I2 f2 => ?_
    refine fly_set none I2 f2 fun s3 H3 I3 f3 => ?_
    exact hh pins s3 σ H3 H0 a C N od D I3 c f3 (hk a H3 hd f3)
section
variable {X : Cx} {k : Nat} {f : Addr} {fd : FuncData} {ps : List Str} {sp : Sp} {x g : Str} {p px pos spos : Pos} {e : Expr} {es : List Expr} {t : TA} {i : Nat}
/-- x = g(..) -/
theorem psx_call (hN : X.N.Nodup) (hi : X.N[i]? = some x) (hx : Loc X.env.scope x) (F : FnOk X.prog X.w X.K X.mg X.base (CXf X.prog X.w) k f fd ps sp) (hr : Room k X.A) (hg : Gl X g) (hm : X.mg g = some (.ref f)) (hk : PySem.W.keepIn X.K (.ref f) = true) (hb : Binds X.K fd ps []) (ha : PA X.nox (e :: es) t)
    (hs : swapsWith (.Call (.Name g p) (e :: es) [] pos) (some (.Name x px)) spos.line X.env = pure false := by rfl) (hf : X.fn x = true ∨ X.env.scope.names.lookup x = some .local := by first | exact .inl rfl | exact .inr rfl | assumption)
    (hdb : (g == ("__debug__" : Str)) = false := by decide) (he : starEach (e :: es) X.env = (false, eval e X.env) :: starEach es X.env := by rfl) (hpl : (backTo pos (starEach es X.env)).any (·.1) = false := by rfl) :
    PSx X [.Assign [.Name x px] (.Call (.Name g p) (e :: es) [] pos) spos] (fun E => tAsg (tCall sp [] E t) (gName i)) := by
  intro pins s σ H D E I h
  have key : wpAny (model X.prog X.w) X.A (eval (.Call (.Name g p) (e :: es) [] pos) X.env) (EP X pins σ fun v H1 => D.nx (σ.set i (some v)) H1) (fun e s' => ∃ a C od H0 H', e = .ref a ∧ Inv X pins σ H' s' ∧ FlyOn .none H0 a C od H' ∧ (∀ d, od = some d → d ≠ a) ∧ E (.ref C) od H0) s := by
    refine wpAny_Call_Name_kw (ld_glob I hg hm ?_ hdb)
    refine PySem.W.callWith_K (h₀ := X.base) I.ok.mod.kin hk (wpAny_mono (ha pos pins s σ H _ (I.wish _) h) (fun us s1 ⟨vs, H1, I1, r, q⟩ => ⟨I1.kIn, ?_⟩) fun _ _ z => False.elim z) he hpl
    have I1 := I1.unwish
    have q : sp (vs ++ []) H1 (fun v H1 => D.nx (σ.set i (some v)) H1) E := q
    rw [List.append_nil] at q
    have hl : us.length = ps.length := by rw [← r.length]; exact F.len _ _ _ _ q
    have bb := hb s1 us I1.kIn (by rw [List.append_nil]; exact hl)
    rw [List.append_nil] at bb
    refine wpAny_call (codeAny_mono (F.run X.A X.stack s1 H1 ⟨us, []⟩ us vs _ E hr I1.env0 bb r q) fun r s' hq => ?_)
    cases r with
    | error e =>
      obtain ⟨a, C, od, H0, H', e1, e2, e3, e4, e5, e6, e7, e8⟩ := hq
      exact ⟨a, C, od, H0, H', e1, I1.call' (ch := []) e2 e4 e5 e3 (fun b z => absurd z (by simp)), e6, e7, e8⟩
    | ok fl =>
      cases fl with
      | ret u => exact I1.after hq
      | next => exact False.elim hq
      | brk => exact False.elim hq
      | cont => exact False.elim hq
  refine wpAny_execs_cons (wpAny_Assign_Name (wpAny_mono key (fun v s1 ⟨y, H1, I1, r1, q1⟩ => ?_) fun _ _ z => z) hs)
  exact store_ok I1 hN hi hx r1 (fun s2 I2 => wpAny_execs_nil ⟨_, H1, I2, q1⟩) hf
end
end L2
end
section
set_option Elab.async false
set_option linter.all false
set_option maxRecDepth 100000
set_option maxHeartbeats 2000000
namespace L2
open PySem PySem.Spec PyProof.Rows PySem.XL
/-! ### enumerate(tuple) -/
def IteT (K : PySem.W.Frag) (a : Addr) : It :=
  ⟨fun i H => ∃ (xs : List V) (x : V), SqT K H a xs ∧ xs[i]? = some x, fun i H v H' => ∃ T x, v = .ref T ∧ H T = none ∧ H' = upd H T (.tup [.int (i : Nat), x]) ∧ ∀ xs, SqT K H a xs → xs[i]? = some x, fun i H => ∃ xs : List V, SqT K H a xs ∧ xs.length = i⟩
theorem isTup_tuple {h : Heap} {a : Addr} {its : Array Value} (x : IsTup h a its) : h.IsTuple a its := x
theorem turn_enumT {P : Program} {w : World} {K : PySem.W.Frag} {elts : List Expr} {kk : Nat} {tpos : Pos} (a e it : Addr) :
    Turn P w K (.Tuple elts kk tpos) (IteT K a) [e, it] e (fun i h => (∃ old, IsEnum h e it ((i : Nat) : Int) old) ∧ h.IsTupleIter it a i ∧ e ≠ it ∧ a ≠ it ∧ a ≠ e) where
  mem := by simp
  obj := fun i h st b hb => by
    obtain ⟨⟨old, he⟩, ⟨o, ho, hc, hd⟩, _⟩ := st
    have e' : b = e ∨ b = it := by simpa using hb
    rcases e' with z | z
    · rw [z]; exact ⟨_, he, fun v q => nomatch q⟩
    · rw [z]; exact ⟨o, ho, fun v q => by rw [hd] at q; cases q⟩
  keep := fun i h h' st k => let ⟨⟨old, he⟩, hi, hne⟩ := st; ⟨⟨old, k e (by simp) _ he⟩, hi.at fun o q => k it (by simp) o q, hne⟩
  item := by
    intro X hP hw hK hc i pins s σ H E I hf st hg
    subst hP hw hK
    obtain ⟨⟨old, he⟩, hit, hne, hai, hae⟩ := st
    obtain ⟨xs, x, hq, hx⟩ := hg
    obtain ⟨its, rv, p, hz⟩ := I.tuple hq
    obtain ⟨u, hu, ru⟩ := rv.get hx
    have hel : e < s.heap.objs.size := Heap.lt_size he
    have hil : it < s.heap.objs.size := by obtain ⟨_, q, _⟩ := hit; exact Heap.lt_size q
    have hh : X.A.in1.handled = none := I.ok.hd hc
    refine wpAny_pyNext_enum_itemD (draws_tup hh it a hai its.toArray) he ⟨hit, isTup_tuple p⟩ (by simpa using (List.getElem?_eq_some_iff.mp hu).1) hne (by simp; exact ⟨hne, Ne.symm hae⟩) fun y h' tk hy ho st' hT hsz hk => ?_
    have ey : y = u := by
      have q : (some u : Option Value) = some y := hu.symm.trans (by simpa using hy)
      exact (Option.some.inj q).symm
    subst ey
    refine ⟨_, rfl, wpAny_letOwnedTupleGo_enum (s := { s with heap := h', toks := tk + 1 }) ho fun h'' he' sb => ?_⟩
    have hT2 : h''.get? s.heap.objs.size = some { cls := .type "tuple", data := .seq #[.int i tk, y] } := (sb.2 _ (Nat.ne_of_gt hel)).trans hT
    have new : ObjOk X.prog X.w (upd H s.heap.objs.size (.tup [.int (i : Nat), x])) h'' s.heap.objs.size (.tup [.int (i : Nat), x]) :=
      ⟨by show 2 ≤ sizeLine; decide, [.int i tk, y], .cons ⟨_, rfl⟩ (.cons ru .nil), ⟨_, hT2, rfl, _, rfl⟩⟩
    have I1 : Inv X pins σ (upd H s.heap.objs.size (.tup [.int (i : Nat), x])) { s with heap := h'', toks := tk + 1 } :=
      I.turnedNew (ch := [e, it]) (fun b ob hb q => (sb.2 b (fun z => hb (by simp [z]))).trans (hk b ob (fun z => hb (by simp [z])) (fun z => hb (by simp [z])) q)) hf (Nat.le_refl _) new
    refine ⟨.ref s.heap.objs.size, _, I1, rfl, ⟨_, x, rfl, I.hok.fresh (Nat.le_refl _), rfl, fun ys hy => by rw [I.tuple_inj hy hq]; exact hx⟩, ⟨⟨y, ?_⟩, st'.1.at fun o q => (sb.2 it (Ne.symm hne)).trans q, hne, hai, hae⟩, fun b hb => ?_⟩
    · have e1 : ((i + 1 : Nat) : Int) = (i : Int) + 1 := by omega
      rw [e1]; exact he'
    · have hb' : b < s.heap.objs.size := by
        have e' : b = e ∨ b = it := by simpa using hb
        rcases e' with z | z
        · rw [z]; exact hel
        · rw [z]; exact hil
      rw [upd_ne (Nat.ne_of_lt hb')]
      exact (hf b hb).1
  done := by
    intro X hP hw hK hc i pins s σ H E I hf st hg
    subst hP hw hK
    obtain ⟨⟨old, he⟩, hit, hne, hai, hae⟩ := st
    obtain ⟨xs, hq, hx⟩ := hg
    obtain ⟨its, rv, p, hz⟩ := I.tuple hq
    obtain ⟨f0, f1, f2, f3, f4, f5⟩ := hf it (by simp)
    have hl := rv.length
    have hh : X.A.in1.handled = none := I.ok.hd hc
    have en : i = its.toArray.size := by
      rw [List.size_toArray]
      omega
    subst en
    exact wpAny_pyNext_enum_endD (draws_tup hh it a hai its.toArray) he ⟨hit, isTup_tuple p⟩ fun h' eb => ⟨rfl, I.turned (t' := s.toks) (fun b o hb q => eb b o hb q) f0 f1 f3 f4 f5⟩
  self := fun A i s Q E st h => let ⟨⟨_, he⟩, _⟩ := st; wpAny_pyIter_enum he h
def iEnumT (K : PySem.W.Frag) (ta : TA) : TI := fun σ H R => ta σ H fun vs H1 => ∃ a xs, vs = [.ref a] ∧ SqT K H1 a xs ∧ R (IteT K a) H1
theorem pi_enumT {X : Cx} {e : Expr} {ta : TA} {p pos tpos : Pos} {elts : List Expr} {kk : Nat} (hg : Gl X "enumerate") (hm : X.mg "enumerate" = none) (ha : PA X [e] ta) (hs : starEach [e] X.env = [(false, eval e X.env)] := by rfl) :
    PI X (.Tuple elts kk tpos) (.Call (.Name "enumerate" p) [e] [] pos) (iEnumT X.K ta) := by
  intro pins s σ H R I h
  refine Call_ (ld_blt I hg hm boot_enumerate (PyProof.Rows.callWith_type1 (thn (ha pos pins s σ H _ I h) fun us s1 ⟨vs, H1, I1, r1, q1⟩ => ?_) hs rfl))
  obtain ⟨a, xs, ex, hq, q⟩ := q1
  subst ex
  cases r1 with
  | cons r rr =>
    cases rr
    cases r
    obtain ⟨its, rv, p', hz⟩ := I1.tuple hq
    have hal : a < s1.heap.objs.size := p'.lt
    refine call_enum_tup (isTup_tuple p') fun h' he hit hsz hk => wpAny_pyIter_enum he ?_
    have I2 : Inv X pins σ H1 { s1 with heap := h' } := I1.kept (t' := s1.toks) hk
    refine ⟨s1.heap.objs.size + 1, [s1.heap.objs.size + 1, s1.heap.objs.size], _, _, H1, rfl, I2, turn_enumT a (s1.heap.objs.size + 1) s1.heap.objs.size, ⟨⟨.none, he⟩, hit, Nat.succ_ne_self _, Nat.ne_of_lt hal, Nat.ne_of_lt (Nat.lt_succ_of_lt hal)⟩, fun b hb => ?_, q⟩
    have e' : b = s1.heap.objs.size + 1 ∨ b = s1.heap.objs.size := by simpa using hb
    have hle : s1.heap.objs.size ≤ b := by
      rcases e' with z | z
      · rw [z]; exact Nat.le_add_right _ _
      · rw [z]; exact Nat.le_refl _
    exact I1.fpOk hle (I1.hok.fresh hle)
/-! ### loops over enumerate: the turn's pair is new -/
theorem for_enum {K : PySem.W.Frag} {a : Addr} {xs : List V} {g : TG} {tb : TS} {D : Ends} {σ : St} {H : Hp} (Pv : Nat → St → Hp → Prop) (h0 : Pv 0 σ H) (hl : ∀ i σ H, i ≤ xs.length → Pv i σ H → SqL K H a xs)
    (hs : ∀ i x T σ H, xs[i]? = some x → Pv i σ H → H T = none → g (.ref T) σ (upd H T (.tup [.int (i : Nat), x])) fun σ2 H2 => tb { D with nx := Pv (i + 1), ct := Pv (i + 1), bk := D.nx } σ2 H2) (hd : ∀ σ H, Pv xs.length σ H → D.nx σ H) :
    ∃ W : Nat → Nat → St → Hp → Prop, (∃ m, W 0 m σ H) ∧ ∀ i m σ H, W i m σ H →
      ((Ite K a).stop i H ∧ D.nx σ H) ∨ ((Ite K a).go i H ∧ ∃ N : St → Hp → Prop, (∀ σ' H', N σ' H' → ∃ m', m' < m ∧ W (i + 1) m' σ' H') ∧ ∀ x H', (Ite K a).yld i H x H' → g x σ H' fun σ2 H2 => tb { D with nx := N, ct := N, bk := D.nx } σ2 H2) := by
  refine ⟨fun i m σ H => m = xs.length - i ∧ i ≤ xs.length ∧ Pv i σ H, ⟨xs.length, by simp, Nat.zero_le _, h0⟩, ?_⟩
  rintro i m σ H ⟨rfl, hi, p⟩
  have q := hl i σ H hi p
  by_cases hlt : i < xs.length
  · refine .inr ⟨⟨xs, xs[i], q, by simp [hlt]⟩, Pv (i + 1), fun σ' H' p' => ⟨xs.length - (i + 1), by omega, rfl, hlt, p'⟩, fun x H' y => ?_⟩
    obtain ⟨T, z, e1, e2, e3, e4⟩ := y
    subst e1 e3
    exact hs i z T σ _ (e4 xs q) p e2
  · have e : i = xs.length := by omega
    subst e
    exact .inl ⟨⟨xs, q, Nat.le_refl _⟩, hd σ H p⟩
theorem for_enumT {K : PySem.W.Frag} {a : Addr} {xs : List V} {g : TG} {tb : TS} {D : Ends} {σ : St} {H : Hp} (Pv : Nat → St → Hp → Prop) (h0 : Pv 0 σ H) (hl : ∀ i σ H, i ≤ xs.length → Pv i σ H → SqT K H a xs)
    (hs : ∀ i x T σ H, xs[i]? = some x → Pv i σ H → H T = none → g (.ref T) σ (upd H T (.tup [.int (i : Nat), x])) fun σ2 H2 => tb { D with nx := Pv (i + 1), ct := Pv (i + 1), bk := D.nx } σ2 H2) (hd : ∀ σ H, Pv xs.length σ H → D.nx σ H) :
    ∃ W : Nat → Nat → St → Hp → Prop, (∃ m, W 0 m σ H) ∧ ∀ i m σ H, W i m σ H →
      ((IteT K a).stop i H ∧ D.nx σ H) ∨ ((IteT K a).go i H ∧ ∃ N : St → Hp → Prop, (∀ σ' H', N σ' H' → ∃ m', m' < m ∧ W (i + 1) m' σ' H') ∧ ∀ x H', (IteT K a).yld i H x H' → g x σ H' fun σ2 H2 => tb { D with nx := N, ct := N, bk := D.nx } σ2 H2) := by
  refine ⟨fun i m σ H => m = xs.length - i ∧ i ≤ xs.length ∧ Pv i σ H, ⟨xs.length, by simp, Nat.zero_le _, h0⟩, ?_⟩
  rintro i m σ H ⟨rfl, hi, p⟩
  have q := hl i σ H hi p
  by_cases hlt : i < xs.length
  · refine .inr ⟨⟨xs, xs[i], q, by simp [hlt]⟩, Pv (i + 1), fun σ' H' p' => ⟨xs.length - (i + 1), by omega, rfl, hlt, p'⟩, fun x H' y => ?_⟩
    obtain ⟨T, z, e1, e2, e3, e4⟩ := y
    subst e1 e3
    exact hs i z T σ _ (e4 xs q) p e2
  · have e : i = xs.length := by omega
    subst e
    exact .inl ⟨⟨xs, q, rfl⟩, hd σ H p⟩
/-! ### a comprehension over a text -/
theorem lc_str {x : Str} {g : TG} {tt : TT} {te : TE} {vs : List Nat} {σ : St} {H1 : Hp} {D : Addr} {Qd : Hp → Prop} (Pv : Nat → Hp → Prop) (h0 : Pv 0 (upd H1 D (.lst [])))
    (hs : ∀ i c H, x.cps[i]? = some c → Pv i H → g (.str ⟨#[c]⟩) (wipe σ vs) H fun σ2 H2 => wipe σ2 vs = wipe σ vs ∧ tt σ2 H2 fun b H3 =>
      if b = true then te σ2 H3 fun y H4 => ∃ acc, H4 D = some (.lst acc) ∧ acc.length < sizeLine ∧ Pv (i + 1) (upd H4 D (.lst (acc ++ [y]))) else Pv (i + 1) H3) (hd : ∀ H, Pv x.cps.size H → Qd H) :
    ∃ W : Nat → Nat → Hp → Prop, (∃ m, W 0 m (upd H1 D (.lst []))) ∧ ∀ i m H, W i m H →
      ((Its x).stop i H ∧ Qd H) ∨ ((Its x).go i H ∧ ∃ Nx : Hp → Prop, (∀ H', Nx H' → ∃ m', m' < m ∧ W (i + 1) m' H') ∧ ∀ y H', (Its x).yld i H y H' → g y (wipe σ vs) H' fun σ2 H2 => wipe σ2 vs = wipe σ vs ∧ tt σ2 H2 fun b H3 =>
        if b = true then te σ2 H3 fun y H4 => ∃ acc, H4 D = some (.lst acc) ∧ acc.length < sizeLine ∧ Nx (upd H4 D (.lst (acc ++ [y]))) else Nx H3) := by
  refine ⟨fun i m H => m = x.cps.size - i ∧ i ≤ x.cps.size ∧ Pv i H, ⟨x.cps.size, by simp, Nat.zero_le _, h0⟩, ?_⟩
  rintro i m H ⟨rfl, hi, p⟩
  by_cases hlt : i < x.cps.size
  · refine .inr ⟨hlt, Pv (i + 1), fun H' p' => ⟨x.cps.size - (i + 1), by omega, rfl, hlt, p'⟩, fun y H' q => ?_⟩
    obtain ⟨e, c, e1, e2⟩ := q
    subst e e2
    exact hs i c _ e1 p
  · have e : i = x.cps.size := by omega
    subst e
    exact .inl ⟨Nat.le_refl _, hd H p⟩
end L2
end
section
set_option Elab.async false
set_option linter.all false
set_option maxRecDepth 100000
set_option maxHeartbeats 2000000
namespace L2
open PySem PySem.Spec PyProof.Rows
/-! ### == and != of lists of ints; of any list and an empty one -/
theorem eqvAll_ints : ∀ xs ys : List Int, PyData.eqvAll (xs.map PyData.int) (ys.map PyData.int) = decide (xs = ys)
  | [], [] => by simp [PyData.eqvAll]
  | [], y :: ys => by simp [PyData.eqvAll]
  | x :: xs, [] => by simp [PyData.eqvAll]
  | x :: xs, y :: ys => by
    simp only [List.map_cons, PyData.eqvAll, PyData.eqv, eqvAll_ints xs ys]
    by_cases h : x = y
    · subst h
      simp
    · simp [h]
theorem canLay_ints : ∀ xs : List Int, PyData.canLayAll0 (xs.map PyData.int) = true
  | [] => rfl
  | x :: xs => by
    simp only [List.map_cons, PyData.canLayAll0, PyData.canLay0, canLay_ints xs, Bool.and_self]
theorem depth_ints : ∀ xs : List Int, PyData.depthAll (xs.map PyData.int) ≤ 1
  | [] => by simp [PyData.depthAll]
  | x :: xs => by
    have := depth_ints xs
    simp only [List.map_cons, PyData.depthAll, PyData.depth]
    omega
theorem shaped_ints (xs : List Int) : SeqAt.shaped (.list (xs.map PyData.int)) = true := by
  unfold SeqAt.shaped
  rw [Bool.and_eq_true, decide_eq_true_eq]
  refine ⟨canLay_ints xs, ?_⟩
  have := depth_ints xs
  simp only [PyData.depth]
  omega
theorem dp_ints {K : PySem.W.Frag} {H : Hp} : ∀ xs : List Int, DpAll K H (xs.map V.int) (xs.map PyData.int)
  | [] => .nil
  | x :: xs => .cons (.int x) (dp_ints xs)
def rEqL (K : PySem.W.Frag) : R2 := fun x y H Q => ∃ (a b : Addr) (xs ys : List Int), x = .ref a ∧ y = .ref b ∧ SqL K H a (xs.map V.int) ∧ SqL K H b (ys.map V.int) ∧ Q (.bl (decide (xs = ys))) H
def rNeL (K : PySem.W.Frag) : R2 := fun x y H Q => ∃ (a b : Addr) (xs ys : List Int), x = .ref a ∧ y = .ref b ∧ SqL K H a (xs.map V.int) ∧ SqL K H b (ys.map V.int) ∧ Q (.bl (!decide (xs = ys))) H
section
variable {X : Cx}
theorem op_eqL (hu : X.A.units + 64 < cLine) : OpR X (compareOp .Eq) (rEqL X.K) := by
  intro pins s σ H x y v u Q I rx ry ⟨a, b, xs, ys, e1, e2, h1, h2, q⟩
  subst e1 e2
  refine op_eqD hu pins s σ H _ _ v u Q I rx ry ⟨_, _, .lst h1 (dp_ints xs), .lst h2 (dp_ints ys), shaped_ints _, shaped_ints _, ?_⟩
  show Q (.bl (PyData.eqvAll _ _)) H
  rw [eqvAll_ints]
  exact q
theorem op_neL (hu : X.A.units + 64 < cLine) : OpR X (compareOp .NotEq) (rNeL X.K) := by
  intro pins s σ H x y v u Q I rx ry ⟨a, b, xs, ys, e1, e2, h1, h2, q⟩
  subst e1 e2
  refine op_neD hu pins s σ H _ _ v u Q I rx ry ⟨_, _, .lst h1 (dp_ints xs), .lst h2 (dp_ints ys), shaped_ints _, shaped_ints _, ?_⟩
  show Q (.bl (!PyData.eqvAll _ _)) H
  rw [eqvAll_ints]
  exact q
def rEq0 (K : PySem.W.Frag) : R2 := fun x y H Q => ∃ a b xs, x = .ref a ∧ y = .ref b ∧ SqL K H a xs ∧ SqL K H b [] ∧ Q (.bl xs.isEmpty) H
def rNe0 (K : PySem.W.Frag) : R2 := fun x y H Q => ∃ a b xs, x = .ref a ∧ y = .ref b ∧ SqL K H a xs ∧ SqL K H b [] ∧ Q (.bl (!xs.isEmpty)) H
theorem sizes_of {xs : List V} {its its' : List Value} (r : Vals xs its) (r' : Vals [] its') (h : xs ≠ []) : (its.toArray.size != its'.toArray.size) = true := by
  cases r'
  have := r.length
  have hx : 0 < xs.length := List.length_pos_iff.mpr h
  simp only [List.size_toArray, bne_iff_ne, ne_eq, List.length_nil]
  omega
theorem op_eq0 (hu : X.A.units + 64 < cLine) : OpR X (compareOp .Eq) (rEq0 X.K) := by
  intro pins s σ H x y v u Q I rx ry ⟨a, b, xs, e1, e2, h1, h2, q⟩
  subst e1 e2
  by_cases hx : xs = []
  · subst hx
    refine op_eqD hu pins s σ H _ _ v u Q I rx ry ⟨_, _, .lst h1 .nil, .lst h2 .nil, by rfl, by rfl, ?_⟩
    exact q
  · cases rx
    cases ry
    obtain ⟨its, r1, ⟨o1, n1, g1, c1, _, d1⟩, _⟩ := I.list h1
    obtain ⟨its', r2, ⟨o2, n2, g2, c2, _, d2⟩, _⟩ := I.list h2
    refine SeqAt.eq_list_lengthsAt ⟨o1, g1, c1, n1, d1⟩ ⟨o2, g2, c2, n2, d2⟩ (sizes_of r1 r2 hx) (by omega) ⟨.bl false, H, I, rfl, ?_⟩
    have : xs.isEmpty = false := by cases xs with | nil => exact absurd rfl hx | cons _ _ => rfl
    rw [this] at q
    exact q
theorem op_ne0 (hu : X.A.units + 64 < cLine) : OpR X (compareOp .NotEq) (rNe0 X.K) := by
  intro pins s σ H x y v u Q I rx ry ⟨a, b, xs, e1, e2, h1, h2, q⟩
  subst e1 e2
  by_cases hx : xs = []
  · subst hx
    refine op_neD hu pins s σ H _ _ v u Q I rx ry ⟨_, _, .lst h1 .nil, .lst h2 .nil, by rfl, by rfl, ?_⟩
    exact q
  · cases rx
    cases ry
    obtain ⟨its, r1, ⟨o1, n1, g1, c1, _, d1⟩, _⟩ := I.list h1
    obtain ⟨its', r2, ⟨o2, n2, g2, c2, _, d2⟩, _⟩ := I.list h2
    obtain ⟨cls, dd, data, sl⟩ := o1
    obtain ⟨cls2, dd2, data2, sl2⟩ := o2
    simp only at c1 d1 c2 d2
    subst c1 d1 c2 d2
    refine richCompare_meets_room (op := .NotEq) ⟨_, g1, rfl⟩ ⟨_, g2, rfl⟩ F.slot_list_ne F.entry_list_ne (F.args_list_ne_2 _ _) (SeqAt.list_ne_lengthsAt a b its.toArray its'.toArray n1 n2 dd dd2 sl sl2 (sizes_of r1 r2 hx))
      ⟨g1, g2, (fun x => nomatch x), ⟨.bl true, H, I, rfl, ?_⟩⟩ (by omega)
    have : xs.isEmpty = false := by cases xs with | nil => exact absurd rfl hx | cons _ _ => rfl
    rw [this] at q
    exact q
end
end L2
end
section
namespace JM
open Flags
/-! ### the program's own reckoning, over whole numbers -/
def cutI (m : Int) : List Int → List (List Int)
  | [] => [[]]
  | x :: r => if x = m then [] :: cutI m r else match cutI m r with
    | [] => [[x]]
    | w :: l => (x :: w) :: l
/-- one more byte at the end -/
def cutPut (m : Int) (ps : List (List Int)) (x : Int) : List (List Int) :=
  if x = m then ps ++ [[]] else ps.dropLast ++ [ps.getLastD [] ++ [x]]
theorem cutI_ne (m : Int) : ∀ l, cutI m l ≠ []
  | [] => by simp [cutI]
  | x :: r => by
    unfold cutI
    split
    · simp
    · split <;> simp
theorem cutPut_cons (m x : Int) (w : List Int) (l : List (List Int)) (h : l ≠ []) : cutPut m (w :: l) x = w :: cutPut m l x := by
  unfold cutPut
  split
  · rfl
  · cases l with
    | nil => exact absurd rfl h
    | cons a l => rfl
theorem cutI_snoc (m x : Int) : ∀ l, cutI m (l ++ [x]) = cutPut m (cutI m l) x
  | [] => by
    by_cases h : x = m <;> simp [cutI, cutPut, h]
  | y :: r => by
    have ih := cutI_snoc m x r
    have hne := cutI_ne m r
    show cutI m (y :: (r ++ [x])) = _
    unfold cutI
    split
    · rw [ih, cutPut_cons _ _ _ _ hne]
    · rw [ih]
      cases e : cutI m r with
      | nil => exact absurd e hne
      | cons w l =>
        cases l with
        | nil => by_cases hx : x = m <;> simp [cutPut, hx]
        | cons a l =>
          rw [cutPut_cons m x w (a :: l) (by simp)]
          show (y :: w) :: cutPut m (a :: l) x = cutPut m ((y :: w) :: a :: l) x
          rw [cutPut_cons m x (y :: w) (a :: l) (by simp)]
def hexs : List Int := [48, 49, 50, 51, 52, 53, 54, 55, 56, 57, 97, 98, 99, 100, 101, 102]
def seens : List Int := hexs ++ [63]
def wSeen : List Int := [115, 101, 101, 110]
def sides3 : List (List Int) := [[102, 114, 111, 110, 116], [98, 101, 104, 105, 110, 100], [117, 110, 107, 110, 111, 119, 110]]
def hoists4 : List (List Int) := [[104, 111, 105, 115, 116], [104, 111, 105, 115, 116, 32, 97, 98, 111, 118, 101], [104, 111, 105, 115, 116, 32, 98, 101, 108, 111, 119], [104, 111, 105, 115, 116, 32, 97, 98, 111, 118, 101, 32, 98, 101, 108, 111, 119]]
def shapes4 : List (List Int) := [[115, 113, 117, 97, 114, 101], [116, 97, 105, 108, 115], [108, 111, 110, 103], [115, 104, 97, 112, 101, 63]]
def sideOk (w : List Int) : Bool := match cutI 32 w with
  | [a, b, c] => a == wSeen && (sides3.contains b && (c.length == 16 && c.all hexs.contains))
  | _ => false
def rowOk (w : List Int) : Bool := w.length == 4 && w.all seens.contains
def sortI (w : List Int) : Option Nat := if sideOk w = true then some 0 else if hoists4.contains w = true then some 1 else if shapes4.contains w = true then some 2 else if rowOk w = true then some 3 else none
structure Sti where
  hd : Bool
  n : Nat
  f : Nat
  c : Nat
def lacksF (s : Sti) : Bool := decide (s.n ≠ 0) && decide (s.f = 0)
def lacksC (s : Sti) : Bool := if s.n = 0 ∨ lacksF s = true then false else decide (s.c < 16)
def mayI (s : Sti) (k : Nat) : Bool :=
  if s.hd = false ∨ k = 0 then !s.hd && decide (k = 0)
  else if k = 3 ∨ lacksC s = true then decide (k = 3) && lacksC s
  else if k = 1 then decide (s.n < 4) && !lacksF s
  else decide (s.n ≠ 0) && decide (s.f < 8)
def putI (s : Sti) (k : Nat) : Sti :=
  if k = 0 then ⟨true, s.n, s.f, s.c⟩ else if k = 1 then ⟨s.hd, s.n + 1, 0, 0⟩ else if k = 2 then ⟨s.hd, s.n, s.f + 1, 0⟩ else ⟨s.hd, s.n, s.f, s.c + 4⟩
def wholeI (s : Sti) : Bool := decide (s.n ≠ 0) && (!lacksF s && !lacksC s)
def goI : Nat → Sti → List (List Int) → Except (Nat × Nat) Sti
  | _, s, [] => .ok s
  | i, s, w :: r => match sortI w with
    | none => .error (1, i)
    | some k => if mayI s k = true then goI (i + 1) (putI s k) r else .error (2, i)
def fault (k i : Nat) : List Int := [-8, (k : Int), (i : Int)]
def judgeI (p : List Int) : List Int :=
  let ps := cutI 10 p
  match goI 0 ⟨false, 0, 0, 0⟩ ps.dropLast with
  | .error e => fault e.1 e.2
  | .ok s => if p = [] ∨ ps.getLastD [] ≠ [] then fault 1 ps.dropLast.length else if wholeI s = true then [(s.n : Int)] else fault 2 ps.dropLast.length
/-! ### bytes -/
def B (n : Int) : UInt8 := UInt8.ofNat n.toNat
def In8 (l : List Int) : Prop := ∀ x ∈ l, 0 ≤ x ∧ x ≤ 255
theorem toNat_B {x : Int} (h : 0 ≤ x ∧ x ≤ 255) : (B x).toNat = x.toNat := by
  unfold B
  rw [UInt8.toNat_ofNat']
  omega
theorem B_inj {x y : Int} (hx : 0 ≤ x ∧ x ≤ 255) (hy : 0 ≤ y ∧ y ≤ 255) (e : B x = B y) : x = y := by
  have := congrArg UInt8.toNat e
  rw [toNat_B hx, toNat_B hy] at this
  omega
theorem mapB_inj : ∀ {a b : List Int}, In8 a → In8 b → a.map B = b.map B → a = b
  | [], [], _, _, _ => rfl
  | [], _ :: _, _, _, e => by simp at e
  | _ :: _, [], _, _, e => by simp at e
  | x :: a, y :: b, ha, hb, e => by
    simp only [List.map_cons, List.cons.injEq] at e
    rw [B_inj (ha x List.mem_cons_self) (hb y List.mem_cons_self) e.1, mapB_inj (fun z hz => ha z (List.mem_cons_of_mem _ hz)) (fun z hz => hb z (List.mem_cons_of_mem _ hz)) e.2]
theorem cut_map (m : Int) (hm : 0 ≤ m ∧ m ≤ 255) : ∀ l, In8 l → cutAt (B m) (l.map B) = (cutI m l).map (·.map B)
  | [], _ => rfl
  | x :: r, h => by
    have hx := h x List.mem_cons_self
    have ih := cut_map m hm r fun z hz => h z (List.mem_cons_of_mem _ hz)
    show (if B x = B m then [] :: cutAt (B m) (r.map B) else match cutAt (B m) (r.map B) with
      | [] => [[B x]]
      | w :: l => (B x :: w) :: l) = (cutI m (x :: r)).map (·.map B)
    unfold cutI
    by_cases e : x = m
    · rw [if_pos e, if_pos (by rw [e]), ih]; rfl
    · rw [if_neg e, if_neg fun q => e (B_inj hx hm q), ih]
      cases cutI m r with
      | nil => rfl
      | cons w l => rfl
theorem cut_in (m : Int) : ∀ {l}, In8 l → ∀ w ∈ cutI m l, In8 w
  | [], _, w, hw => by
    simp [cutI] at hw
    subst hw
    intro z hz
    cases hz
  | x :: r, h, w, hw => by
    have ih := cut_in m (l := r) fun z hz => h z (List.mem_cons_of_mem _ hz)
    unfold cutI at hw
    split at hw
    · rcases List.mem_cons.mp hw with rfl | hw
      · intro z hz; cases hz
      · exact ih w hw
    · cases e : cutI m r with
      | nil => exact absurd e (cutI_ne m r)
      | cons a l =>
        rw [e] at hw ih
        rcases List.mem_cons.mp hw with rfl | hw
        · intro z hz
          rcases List.mem_cons.mp hz with rfl | hz
          · exact h _ List.mem_cons_self
          · exact ih a List.mem_cons_self z hz
        · exact ih w (List.mem_cons_of_mem _ hw)
end JM
end
section
namespace JM
open Flags
/-! ### cutting -/
theorem cut_none (m : Int) : ∀ {l : List Int}, m ∉ l → cutI m l = [l]
  | [], _ => rfl
  | x :: r, h => by
    have h1 : ¬ x = m := fun e => h (by rw [e]; exact List.mem_cons_self)
    have h2 := cut_none m (l := r) fun q => h (List.mem_cons_of_mem _ q)
    unfold cutI
    rw [if_neg h1, h2]
theorem cut_app (m : Int) (r : List Int) : ∀ {l : List Int}, m ∉ l → cutI m (l ++ m :: r) = l :: cutI m r
  | [], _ => by
    show cutI m (m :: r) = _
    unfold cutI
    rw [if_pos rfl]
    split <;> rfl
  | x :: l, h => by
    have h1 : ¬ x = m := fun e => h (by rw [e]; exact List.mem_cons_self)
    have h2 := cut_app m r (l := l) fun q => h (List.mem_cons_of_mem _ q)
    show (if x = m then [] :: cutI m (l ++ m :: r) else match cutI m (l ++ m :: r) with
      | [] => [[x]]
      | w :: l => (x :: w) :: l) = _
    rw [if_neg h1, h2]
def glue (m : Int) : List (List Int) → List Int
  | [] => []
  | [w] => w
  | w :: r => w ++ m :: glue m r
theorem glue_cons (m : Int) (w : List Int) {r : List (List Int)} (h : r ≠ []) : glue m (w :: r) = w ++ m :: glue m r := by
  cases r with
  | nil => exact absurd rfl h
  | cons a r => rfl
theorem glue_cut (m : Int) : ∀ l, glue m (cutI m l) = l
  | [] => rfl
  | x :: r => by
    have ih := glue_cut m r
    have hne := cutI_ne m r
    unfold cutI
    split
    · rename_i e
      rw [glue_cons m [] hne, ih, e]
      rfl
    · cases e : cutI m r with
      | nil => exact absurd e hne
      | cons w l =>
        rw [e] at ih
        cases l with
        | nil =>
          show x :: w = x :: r
          rw [show w = r from ih]
        | cons a l =>
          show (x :: w) ++ m :: glue m (a :: l) = x :: r
          rw [← ih]
          rfl
/-! ### lines -/
def hexOk (c : List Int) : Bool := c.length == 16 && c.all hexs.contains
theorem sideOk_iff (w : List Int) : sideOk w = true ↔ ∃ b c, w = wSeen ++ 32 :: (b ++ 32 :: c) ∧ sides3.contains b = true ∧ hexOk c = true := by
  constructor
  · intro h
    unfold sideOk at h
    split at h
    · rename_i a b c e
      have g := glue_cut 32 w
      rw [e] at g
      simp only [Bool.and_eq_true] at h
      refine ⟨b, c, ?_, h.2.1, ?_⟩
      · rw [← g, ← eq_of_beq h.1]
        rfl
      · unfold hexOk
        rw [Bool.and_eq_true]
        exact h.2.2
    · cases h
  · rintro ⟨b, c, rfl, hb, hc⟩
    have h1 : (32 : Int) ∉ wSeen := by decide
    have h2 : (32 : Int) ∉ b := by
      have : ∀ b ∈ sides3, (32 : Int) ∉ b := by decide
      exact this b (by simpa using hb)
    have h3 : (32 : Int) ∉ c := fun q => by
      unfold hexOk at hc
      rw [Bool.and_eq_true, List.all_eq_true] at hc
      have := hc.2 32 q
      revert this
      decide
    unfold sideOk
    rw [cut_app 32 _ h1, cut_app 32 _ h2, cut_none 32 h3]
    unfold hexOk at hc
    rw [Bool.and_eq_true] at hc
    show ((wSeen == wSeen) && (sides3.contains b && (c.length == 16 && c.all hexs.contains))) = true
    rw [hb, hc.1, hc.2]
    decide
theorem in8_of {l : List Int} (h : l.all (fun x => decide (0 ≤ x) && decide (x ≤ 255)) = true) : In8 l := fun x hx => by
  have := List.all_eq_true.mp h x hx
  simpa using this
theorem hex_some {x : Int} (h : 0 ≤ x ∧ x ≤ 255) : (hexValue (B x)).isSome = hexs.contains x := by
  have hb := toNat_B h
  unfold hexValue
  rw [hb]
  by_cases h1 : 48 ≤ x.toNat ∧ x.toNat ≤ 57
  · rw [if_pos h1]
    have : x = 48 ∨ x = 49 ∨ x = 50 ∨ x = 51 ∨ x = 52 ∨ x = 53 ∨ x = 54 ∨ x = 55 ∨ x = 56 ∨ x = 57 := by omega
    rcases this with e | e | e | e | e | e | e | e | e | e <;> rw [e] <;> rfl
  · rw [if_neg h1]
    by_cases h2 : 97 ≤ x.toNat ∧ x.toNat ≤ 102
    · rw [if_pos h2]
      have : x = 97 ∨ x = 98 ∨ x = 99 ∨ x = 100 ∨ x = 101 ∨ x = 102 := by omega
      rcases this with e | e | e | e | e | e <;> rw [e] <;> rfl
    · rw [if_neg h2]
      have : ¬ hexs.contains x = true := fun q => by
        have q' : x ∈ hexs := by simpa using q
        simp only [hexs, List.mem_cons, List.not_mem_nil, or_false] at q'
        omega
      simp only [Bool.not_eq_true] at this
      rw [this]
      rfl
theorem cell_some {x : Int} (h : 0 ≤ x ∧ x ≤ 255) : (cellIn (B x)).isSome = seens.contains x := by
  unfold cellIn
  by_cases e : x = 63
  · rw [e]; rfl
  · rw [if_neg fun q => e (B_inj h (by decide) (q.trans (show (63 : UInt8) = B 63 from rfl)))]
    rw [Option.isSome_map, hex_some h]
    have : seens.contains x = (hexs.contains x || ([63] : List Int).contains x) := by
      unfold seens
      rw [List.contains_eq_any_beq, List.contains_eq_any_beq, List.contains_eq_any_beq, List.any_append]
    rw [this]
    simp [e]
theorem mapM_some {α β : Type} (f : α → Option β) : ∀ l : List α, (l.mapM f).isSome = l.all (fun x => (f x).isSome)
  | [] => rfl
  | x :: r => by
    have ih := mapM_some f r
    rw [List.mapM_cons, List.all_cons, ← ih]
    cases f x with
    | none => rfl
    | some y =>
      cases r.mapM f with
      | none => rfl
      | some z => rfl
theorem mapM_len {α β : Type} (f : α → Option β) : ∀ {l : List α} {r : List β}, l.mapM f = some r → r.length = l.length
  | [], r, h => by
    have : some [] = some r := h
    cases this
    rfl
  | x :: l, r, h => by
    rw [List.mapM_cons] at h
    cases e : f x with
    | none => rw [e] at h; cases h
    | some y =>
      cases e2 : l.mapM f with
      | none => rw [e, e2] at h; cases h
      | some z =>
        rw [e, e2] at h
        have : some (y :: z) = some r := h
        cases this
        rw [List.length_cons, List.length_cons, mapM_len f e2]
theorem all_congr8 {l : List Int} (h : In8 l) {f g : Int → Bool} (e : ∀ x, 0 ≤ x ∧ x ≤ 255 → f x = g x) : l.all f = l.all g := by
  rw [Bool.eq_iff_iff, List.all_eq_true, List.all_eq_true]
  exact ⟨fun q x hx => by rw [← e x (h x hx)]; exact q x hx, fun q x hx => by rw [e x (h x hx)]; exact q x hx⟩
theorem look_some {c : List Int} (h : In8 c) : (lookIn (c.map B)).isSome = hexOk c := by
  unfold lookIn hexOk
  rw [List.length_map]
  by_cases e : c.length = 16
  · rw [if_neg (fun q => q e), Option.isSome_map, mapM_some, List.all_map]
    rw [show c.all ((fun x => (hexValue x).isSome) ∘ B) = c.all hexs.contains from all_congr8 h (fun x hx => hex_some hx), e]
    rfl
  · rw [if_pos e]
    have : (c.length == 16) = false := by simpa using e
    rw [this]
    rfl
theorem cells_some {c : List Int} (h : In8 c) : ((c.map B).mapM cellIn).isSome = c.all seens.contains := by
  rw [mapM_some, List.all_map]
  exact all_congr8 h fun x hx => cell_some hx
end JM
end
section
namespace JM
open Flags
/-! ### which line it is -/
def preOf (b : List Int) : List Int := wSeen ++ 32 :: (b ++ [32])
theorem pre8 {b : List Int} (h : In8 b) : In8 (preOf b) := fun x hx => by
  unfold preOf at hx
  rcases List.mem_append.mp hx with q | q
  · exact in8_of (l := wSeen) (by decide) x q
  · rcases List.mem_cons.mp q with q | q
    · subst q; decide
    · rcases List.mem_append.mp q with q | q
      · exact h x q
      · have : x = 32 := by simpa using q
        subst this; decide
theorem pre_look {w b : List Int} (hw : In8 w) (hb : In8 b) :
    ((ascii "seen" ++ 32 :: (b.map B ++ [32])).isPrefixOf (w.map B) && (lookIn ((w.map B).drop (6 + (b.map B).length))).isSome) = true ↔ ∃ c, w = wSeen ++ 32 :: (b ++ 32 :: c) ∧ hexOk c = true := by
  have e0 : ascii "seen" ++ 32 :: (b.map B ++ [32]) = (preOf b).map B := by
    unfold preOf
    rw [List.map_append, List.map_cons, List.map_append]
    rfl
  have el : (preOf b).length = 6 + b.length := by
    unfold preOf
    rw [List.length_append, List.length_cons, List.length_append]
    show 4 + (b.length + 1 + 1) = _
    omega
  rw [e0, Bool.and_eq_true, List.isPrefixOf_iff_prefix, List.length_map, ← List.map_drop]
  constructor
  · rintro ⟨⟨t, ht⟩, hl⟩
    have hd : In8 (w.drop (6 + b.length)) := fun x hx => hw x (List.mem_of_mem_drop hx)
    rw [look_some hd] at hl
    refine ⟨w.drop (6 + b.length), ?_, hl⟩
    have h1 : (w.take (6 + b.length)).map B = (preOf b).map B := by
      have := congrArg (List.take (6 + b.length)) ht
      rw [← List.map_take] at this
      rw [← this, ← el]
      rw [List.take_append_of_le_length (by rw [List.length_map]; exact Nat.le_refl _), ← List.length_map (f := B), List.take_length]
    have h2 : w.take (6 + b.length) = preOf b := mapB_inj (fun x hx => hw x (List.mem_of_mem_take hx)) (pre8 hb) h1
    have h3 := List.take_append_drop (6 + b.length) w
    rw [h2] at h3
    refine h3.symm.trans ?_
    unfold preOf
    simp only [List.append_assoc, List.cons_append, List.nil_append]
  · rintro ⟨c, rfl, hc⟩
    have e1 : wSeen ++ 32 :: (b ++ 32 :: c) = preOf b ++ c := by
      unfold preOf
      simp [List.append_assoc]
    rw [e1] at hw ⊢
    have hc8 : In8 c := fun x hx => hw x (List.mem_append_right _ hx)
    have ed : (preOf b ++ c).drop (6 + b.length) = c := by
      rw [← el, List.drop_left]
    rw [ed, look_some hc8]
    exact ⟨⟨c.map B, by rw [List.map_append]⟩, hc⟩
def sideI (s : Nat) : List Int := sides3.getD s []
theorem side_eq : ∀ s ∈ [0, 1, 2], sideWord s = (sideI s).map B ∧ In8 (sideI s) ∧ sides3.contains (sideI s) = true := by
  intro s hs
  have : s = 0 ∨ s = 1 ∨ s = 2 := by simpa using hs
  rcases this with rfl | rfl | rfl <;> exact ⟨by decide, in8_of (by decide), by decide⟩
theorem side_of {b : List Int} (h : sides3.contains b = true) : ∃ s ∈ [0, 1, 2], b = sideI s := by
  have h' : b ∈ sides3 := by simpa using h
  simp only [sides3, List.mem_cons, List.not_mem_nil, or_false] at h'
  rcases h' with e | e | e
  · exact ⟨0, by decide, by rw [e]; rfl⟩
  · exact ⟨1, by decide, by rw [e]; rfl⟩
  · exact ⟨2, by decide, by rw [e]; rfl⟩
def pS (l : Bytes) (s : Nat) : Bool := (ascii "seen" ++ 32 :: (sideWord s ++ [32])).isPrefixOf l && (lookIn (l.drop (6 + (sideWord s).length))).isSome
theorem pS_iff {w : List Int} (hw : In8 w) {s : Nat} (hs : s ∈ [0, 1, 2]) : pS (w.map B) s = true ↔ ∃ c, w = wSeen ++ 32 :: (sideI s ++ 32 :: c) ∧ hexOk c = true := by
  obtain ⟨e, h8, _⟩ := side_eq s hs
  unfold pS
  rw [e]
  exact pre_look hw h8
theorem find_side {w : List Int} (hw : In8 w) : ([0, 1, 2].find? (pS (w.map B))).isSome = sideOk w := by
  rw [Bool.eq_iff_iff, List.find?_isSome, sideOk_iff]
  constructor
  · rintro ⟨s, hs, h⟩
    obtain ⟨c, e, hc⟩ := (pS_iff hw hs).mp h
    exact ⟨_, c, e, (side_eq s hs).2.2, hc⟩
  · rintro ⟨b, c, e, hb, hc⟩
    obtain ⟨s, hs, rfl⟩ := side_of hb
    exact ⟨s, hs, (pS_iff hw hs).mpr ⟨c, e, hc⟩⟩
theorem mem_map8 {w : List Int} (hw : In8 w) {l : List (List Int)} (hl : ∀ x ∈ l, In8 x) : w.map B ∈ l.map (·.map B) ↔ w ∈ l := by
  rw [List.mem_map]
  constructor
  · rintro ⟨x, hx, e⟩
    rw [← mapB_inj (hl x hx) hw e]
    exact hx
  · intro h
    exact ⟨w, h, rfl⟩
def fH (l : Bytes) : Option (Bool × Bool) := [(false, false), (true, false), (false, true), (true, true)].find? fun (x : Bool × Bool) => (Glimpse.lines ⟨x.1, x.2, []⟩).head? == some l
def fF (l : Bytes) : Option Nat := [0, 1, 2, 3].find? fun (s : Nat) => shapeSeen s == l
theorem all8 (l : List (List Int)) (h : l.all (fun w => w.all (fun x => decide (0 ≤ x) && decide (x ≤ 255))) = true) : ∀ x ∈ l, In8 x := fun x hx => in8_of (List.all_eq_true.mp h x hx)
theorem find_hoist {w : List Int} (hw : In8 w) : (fH (w.map B)).isSome = hoists4.contains w := by
  have e : hoists4.map (·.map B) = [(false, false), (true, false), (false, true), (true, true)].map (fun (x : Bool × Bool) => ((Glimpse.lines ⟨x.1, x.2, []⟩).head?).getD []) := by decide
  have e2 : ∀ x ∈ [(false, false), (true, false), (false, true), (true, true)], (Glimpse.lines ⟨x.1, x.2, []⟩).head? = some (((Glimpse.lines ⟨x.1, x.2, []⟩).head?).getD []) := by decide
  rw [Bool.eq_iff_iff]
  unfold fH
  rw [List.find?_isSome]
  rw [show (hoists4.contains w = true ↔ w ∈ hoists4) from by simp, ← mem_map8 hw (all8 hoists4 (by decide)), e, List.mem_map]
  constructor
  · rintro ⟨x, hx, h⟩
    refine ⟨x, hx, ?_⟩
    rw [eq_of_beq h]
    rfl
  · rintro ⟨x, hx, h⟩
    refine ⟨x, hx, ?_⟩
    rw [e2 x hx, h]
    exact beq_self_eq_true _
theorem find_shape {w : List Int} (hw : In8 w) : (fF (w.map B)).isSome = shapes4.contains w := by
  have e : shapes4.map (·.map B) = [0, 1, 2, 3].map shapeSeen := by decide
  rw [Bool.eq_iff_iff]
  unfold fF
  rw [List.find?_isSome]
  rw [show (shapes4.contains w = true ↔ w ∈ shapes4) from by simp, ← mem_map8 hw (all8 shapes4 (by decide)), e, List.mem_map]
  constructor
  · rintro ⟨x, hx, h⟩
    exact ⟨x, hx, eq_of_beq h⟩
  · rintro ⟨x, hx, h⟩
    exact ⟨x, hx, by rw [h]; exact beq_self_eq_true _⟩
/-- what a line is, by its sort -/
def IsSort : Option Nat → Option PlateLine → Prop
  | none, r => r = none
  | some 0, r => ∃ s x, r = some (.seen s x)
  | some 1, r => ∃ a b, r = some (.hoist a b)
  | some 2, r => ∃ k, r = some (.flag k)
  | some _, r => ∃ l, r = some (.cells l) ∧ l.length = 4
theorem plateLine_eq (l : Bytes) : plateLine l = match [0, 1, 2].find? (pS l) with
    | some s => (lookIn (l.drop (6 + (sideWord s).length))).map fun (x : Nat) => .seen s x
    | none => match fH l with
      | some x => some (.hoist x.1 x.2)
      | none => match fF l with
        | some s => some (.flag s)
        | none => if l.length = 4 then (l.mapM cellIn).map .cells else none := rfl
theorem line_sort {w : List Int} (hw : In8 w) : IsSort (sortI w) (plateLine (w.map B)) := by
  rw [plateLine_eq]
  have h0 := find_side hw
  have h1 := find_hoist hw
  have h2 := find_shape hw
  unfold sortI
  cases e0 : [0, 1, 2].find? (pS (w.map B)) with
  | some s =>
    rw [e0] at h0
    rw [if_pos (show sideOk w = true from h0.symm)]
    have hp := List.find?_some e0
    unfold pS at hp
    rw [Bool.and_eq_true] at hp
    obtain ⟨x, hx⟩ := Option.isSome_iff_exists.mp hp.2
    exact ⟨s, x, by simp only [hx]; rfl⟩
  | none =>
    rw [e0] at h0
    rw [if_neg (by rw [← h0]; exact Bool.false_ne_true)]
    cases e1 : fH (w.map B) with
    | some x =>
      rw [e1] at h1
      rw [if_pos (show hoists4.contains w = true from h1.symm)]
      exact ⟨_, _, rfl⟩
    | none =>
      rw [e1] at h1
      rw [if_neg (by rw [← h1]; exact Bool.false_ne_true)]
      cases e2 : fF (w.map B) with
      | some s =>
        rw [e2] at h2
        rw [if_pos (show shapes4.contains w = true from h2.symm)]
        exact ⟨_, rfl⟩
      | none =>
        rw [e2] at h2
        rw [if_neg (by rw [← h2]; exact Bool.false_ne_true)]
        unfold rowOk
        rw [← cells_some hw]
        by_cases h4 : w.length = 4
        · cases e3 : (w.map B).mapM cellIn with
          | none =>
            rw [if_neg (by simp)]
            show (if (w.map B).length = 4 then (Option.map PlateLine.cells none) else none) = none
            split <;> rfl
          | some l =>
            rw [if_pos (by simp [h4])]
            refine ⟨l, ?_, ?_⟩
            · show (if (w.map B).length = 4 then (Option.map PlateLine.cells (some l)) else none) = _
              rw [List.length_map, if_pos h4]
              rfl
            · have := mapM_len cellIn e3
              rw [List.length_map, h4] at this
              exact this
        · rw [if_neg (by simp [h4])]
          show (if (w.map B).length = 4 then _ else none) = none
          rw [List.length_map, if_neg h4]
end JM
end
section
namespace JM
open Flags
structure Rel (s : PlateState) (t : Sti) : Prop where
  hd : t.hd = s.head.isSome
  n : t.n = s.hoists.length
  no : s.head = none → s.flag = none ∧ s.hoists = []
  some_ : ∀ k m, s.flag = some (k, m) → ∃ g, s.hoists.getLast? = some g ∧ t.f = g.flags.length + 1 ∧ t.c = m.length ∧ m.length < 16 ∧ m.length % 4 = 0
  none_ : s.flag = none → ∀ g, s.hoists.getLast? = some g → t.f = g.flags.length ∧ (g.flags ≠ [] → t.c = 16)
theorem rel0 : Rel ⟨none, [], none⟩ ⟨false, 0, 0, 0⟩ :=
  ⟨rfl, rfl, fun _ => ⟨rfl, rfl⟩, fun _ _ h => (by cases h), fun _ g h => (by cases h)⟩
theorem putFlag_len (x : Seen) : ∀ l : List Glimpse, (putFlag x l).length = l.length
  | [] => rfl
  | [g] => rfl
  | g :: a :: r => by
    show (g :: putFlag x (a :: r)).length = _
    rw [List.length_cons, putFlag_len x (a :: r)]
    rfl
theorem putFlag_last (x : Seen) : ∀ {l : List Glimpse} {g : Glimpse}, l.getLast? = some g → (putFlag x l).getLast? = some { g with flags := g.flags ++ [x] }
  | [], g, h => by cases h
  | [a], g, h => by
    have : a = g := by simpa using h
    subst this
    rfl
  | a :: b :: r, g, h => by
    have h' : (b :: r).getLast? = some g := by simpa using h
    have ih := putFlag_last x h'
    show (a :: putFlag x (b :: r)).getLast? = _
    have hne : putFlag x (b :: r) ≠ [] := fun q => by
      have := putFlag_len x (b :: r)
      rw [q] at this
      cases this
    cases e : putFlag x (b :: r) with
    | nil => exact absurd e hne
    | cons c d =>
      rw [e] at ih
      rw [List.getLast?_cons_cons]
      exact ih
theorem last_none {l : List Glimpse} : l.getLast? = none ↔ l.length = 0 := by
  rw [List.getLast?_eq_none_iff, List.length_eq_zero_iff]
theorem last_some {l : List Glimpse} (h : l.length ≠ 0) : ∃ g, l.getLast? = some g := by
  cases e : l.getLast? with
  | none => exact absurd (last_none.mp e) h
  | some g => exact ⟨g, rfl⟩
def Ok1 (s : PlateState) (x : PlateLine) (t : Sti) (k : Nat) : Prop := (mayI t k = true → ∃ s', s.line x = some s' ∧ Rel s' (putI t k)) ∧ (mayI t k = false → s.line x = none)
theorem step_seen {s : PlateState} {t : Sti} (r : Rel s t) (a b : Nat) : Ok1 s (.seen a b) t 0 := by
  have e : mayI t 0 = !t.hd := by
    unfold mayI
    rw [if_pos (.inr rfl)]
    simp
  unfold Ok1
  rw [e, r.hd]
  cases h : s.head with
  | none =>
    obtain ⟨h1, h2⟩ := r.no h
    refine ⟨fun _ => ⟨{ s with head := some (a, b) }, ?_, ?_⟩, fun q => (by cases q)⟩
    · show (if s.head = none then _ else none) = _
      rw [if_pos h]
    · exact ⟨rfl, r.n, fun q => (by cases q), r.some_, r.none_⟩
  | some y =>
    refine ⟨fun q => (by cases q), fun _ => ?_⟩
    show (if s.head = none then _ else none) = _
    rw [if_neg (by rw [h]; intro q; cases q)]
theorem lacksF_iff {s : PlateState} {t : Sti} (r : Rel s t) : lacksF t = true ↔ s.flag = none ∧ ∃ g, s.hoists.getLast? = some g ∧ g.flags = [] := by
  unfold lacksF
  rw [Bool.and_eq_true, decide_eq_true_eq, decide_eq_true_eq]
  constructor
  · rintro ⟨h1, h2⟩
    rw [r.n] at h1
    cases e : s.flag with
    | none =>
      obtain ⟨g, hg⟩ := last_some h1
      obtain ⟨q1, _⟩ := r.none_ e g hg
      exact ⟨rfl, g, hg, List.length_eq_zero_iff.mp (by omega)⟩
    | some y =>
      obtain ⟨k, m⟩ := y
      obtain ⟨g, hg, q1, _⟩ := r.some_ k m e
      omega
  · rintro ⟨h1, g, hg, h2⟩
    obtain ⟨q1, _⟩ := r.none_ h1 g hg
    rw [h2] at q1
    refine ⟨fun q => ?_, q1⟩
    rw [r.n] at q
    rw [last_none.mpr q] at hg
    cases hg
theorem lacksC_iff {s : PlateState} {t : Sti} (r : Rel s t) : lacksC t = true ↔ s.flag.isSome = true := by
  unfold lacksC
  cases e : s.flag with
  | none =>
    by_cases h0 : t.n = 0
    · rw [if_pos (.inl h0)]; simp
    · by_cases hf : lacksF t = true
      · rw [if_pos (.inr hf)]; simp
      · rw [if_neg (fun z => z.elim h0 hf)]
        have h0' := h0
        rw [r.n] at h0'
        obtain ⟨g, hg⟩ := last_some h0'
        obtain ⟨_, q2⟩ := r.none_ e g hg
        have := q2 fun z => hf ((lacksF_iff r).mpr ⟨e, g, hg, z⟩)
        rw [this]
        simp
  | some y =>
    obtain ⟨k, m⟩ := y
    obtain ⟨g, hg, q1, q2, q3, _⟩ := r.some_ k m e
    have h0 : ¬ t.n = 0 := fun q => by
      rw [r.n] at q
      rw [last_none.mpr q] at hg
      cases hg
    have hf : ¬ lacksF t = true := fun q => by
      have := (lacksF_iff r).mp q
      rw [e] at this
      cases this.1
    rw [if_neg (fun z => z.elim h0 hf), q2]
    simp [q3]
theorem step_hoist {s : PlateState} {t : Sti} (r : Rel s t) (a b : Bool) : Ok1 s (.hoist a b) t 1 := by
  have hC := lacksC_iff r
  have hF := lacksF_iff r
  have line : s.line (.hoist a b) = if s.head.isSome = true ∧ s.flag = none ∧ s.hoists.length < MOST ∧ (match s.hoists.getLast? with
      | some g => !g.flags.isEmpty
      | none => true) = true then some { s with hoists := s.hoists ++ [⟨a, b, []⟩] } else none := rfl
  have key : mayI t 1 = true ↔ (s.head.isSome = true ∧ s.flag = none ∧ s.hoists.length < MOST ∧ (match s.hoists.getLast? with
      | some g => !g.flags.isEmpty
      | none => true) = true) := by
    unfold mayI
    by_cases hh : t.hd = false
    · rw [if_pos (.inl hh), hh]
      constructor
      · intro q; simp at q
      · rintro ⟨q, _⟩
        rw [← r.hd, hh] at q
        cases q
    · have hh' : t.hd = true := by simpa using hh
      rw [if_neg (fun z => z.elim hh (by decide))]
      by_cases hc : lacksC t = true
      · rw [if_pos (.inr hc)]
        constructor
        · intro q; simp at q
        · rintro ⟨_, q, _⟩
          rw [hC, q] at hc
          cases hc
      · rw [if_neg (fun z => z.elim (by decide) hc), if_pos rfl, Bool.and_eq_true, decide_eq_true_eq]
        have hn : s.flag = none := by
          cases e : s.flag with
          | none => rfl
          | some y => exact absurd (hC.mpr (by rw [e]; rfl)) hc
        rw [← r.hd, ← r.n]
        constructor
        · rintro ⟨q1, q2⟩
          refine ⟨hh', hn, q1, ?_⟩
          cases e : s.hoists.getLast? with
          | none => rfl
          | some g =>
            cases e2 : g.flags with
            | nil =>
              rw [hF.mpr ⟨hn, g, e, e2⟩] at q2
              cases q2
            | cons _ _ => simp [e2]
        · rintro ⟨_, _, q1, q2⟩
          refine ⟨q1, ?_⟩
          cases e : lacksF t with
          | false => rfl
          | true =>
            obtain ⟨_, g, hg, z⟩ := hF.mp e
            rw [hg] at q2
            simp [z] at q2
  unfold Ok1
  rw [line]
  constructor
  · intro q
    have k := key.mp q
    rw [if_pos k]
    refine ⟨_, rfl, ?_⟩
    refine ⟨r.hd, ?_, fun z => ?_, fun k' m z => ?_, fun _ g hg => ?_⟩
    · show t.n + 1 = (s.hoists ++ [_]).length
      rw [List.length_append, r.n]
      rfl
    · have k1 := k.1
      rw [show s.head = none from z] at k1
      cases k1
    · have z' : s.flag = some (k', m) := z
      rw [k.2.1] at z'
      cases z'
    · have hg' : (s.hoists ++ [(⟨a, b, []⟩ : Glimpse)]).getLast? = some g := hg
      rw [List.getLast?_append] at hg'
      have e : (⟨a, b, []⟩ : Glimpse) = g := by simpa using hg'
      subst e
      exact ⟨rfl, fun z => absurd rfl z⟩
  · intro q
    rw [if_neg fun z => by rw [key.mpr z] at q; cases q]
theorem step_flag {s : PlateState} {t : Sti} (r : Rel s t) (k : Nat) : Ok1 s (.flag k) t 2 := by
  have hC := lacksC_iff r
  have line : s.line (.flag k) = if s.head.isSome = true ∧ s.flag = none ∧ (match s.hoists.getLast? with
      | some g => decide (g.flags.length < LONG)
      | none => false) = true then some { s with flag := some (k, []) } else none := rfl
  have key : mayI t 2 = true ↔ (s.head.isSome = true ∧ s.flag = none ∧ (match s.hoists.getLast? with
      | some g => decide (g.flags.length < LONG)
      | none => false) = true) := by
    unfold mayI
    by_cases hh : t.hd = false
    · rw [if_pos (.inl hh), hh]
      constructor
      · intro q; simp at q
      · rintro ⟨q, _⟩
        rw [← r.hd, hh] at q
        cases q
    · have hh' : t.hd = true := by simpa using hh
      rw [if_neg (fun z => z.elim hh (by decide))]
      by_cases hc : lacksC t = true
      · rw [if_pos (.inr hc)]
        constructor
        · intro q; simp at q
        · rintro ⟨_, q, _⟩
          rw [hC, q] at hc
          cases hc
      · rw [if_neg (fun z => z.elim (by decide) hc), if_neg (by decide), Bool.and_eq_true, decide_eq_true_eq, decide_eq_true_eq]
        have hn : s.flag = none := by
          cases e : s.flag with
          | none => rfl
          | some y => exact absurd (hC.mpr (by rw [e]; rfl)) hc
        constructor
        · rintro ⟨q1, q2⟩
          rw [r.n] at q1
          obtain ⟨g, hg⟩ := last_some q1
          obtain ⟨z, _⟩ := r.none_ hn g hg
          refine ⟨by rw [← r.hd]; exact hh', hn, ?_⟩
          rw [hg]
          show decide (g.flags.length < 8) = true
          rw [decide_eq_true_eq, ← z]
          exact q2
        · rintro ⟨_, _, q⟩
          cases e : s.hoists.getLast? with
          | none => rw [e] at q; cases q
          | some g =>
            rw [e] at q
            obtain ⟨z, _⟩ := r.none_ hn g e
            have q' : g.flags.length < 8 := by
              have : decide (g.flags.length < 8) = true := q
              simpa using this
            refine ⟨fun w => ?_, by omega⟩
            rw [r.n] at w
            rw [last_none.mpr w] at e
            cases e
  unfold Ok1
  rw [line]
  constructor
  · intro q
    have kk := key.mp q
    rw [if_pos kk]
    refine ⟨_, rfl, ?_⟩
    refine ⟨r.hd, r.n, fun z => ?_, fun k' m z => ?_, fun z => ?_⟩
    · have k1 := kk.1
      rw [show s.head = none from z] at k1
      cases k1
    · have z' : some (k, ([] : List (Option Nat))) = some (k', m) := z
      cases z'
      cases e : s.hoists.getLast? with
      | none =>
        have := kk.2.2
        rw [e] at this
        cases this
      | some g =>
        obtain ⟨w, _⟩ := r.none_ kk.2.1 g e
        refine ⟨g, (by first | exact e | rfl), ?_, rfl, by decide, rfl⟩
        show t.f + 1 = _
        rw [w]
    · have z' : some (k, ([] : List (Option Nat))) = none := z
      cases z'
  · intro q
    rw [if_neg fun z => by rw [key.mpr z] at q; cases q]
theorem step_cells {s : PlateState} {t : Sti} (r : Rel s t) {l : List (Option Nat)} (hl : l.length = 4) : Ok1 s (.cells l) t 3 := by
  have hC := lacksC_iff r
  have key : mayI t 3 = s.flag.isSome := by
    rw [Bool.eq_iff_iff, ← hC]
    unfold mayI
    by_cases hh : t.hd = false
    · rw [if_pos (.inl hh), hh]
      constructor
      · intro q; simp at q
      · intro q
        have h0 : s.head = none := by
          cases e : s.head with
          | none => rfl
          | some y =>
            have := r.hd
            rw [hh, e] at this
            cases this
        rw [hC, (r.no h0).1] at q
        cases q
    · rw [if_neg (fun z => z.elim hh (by decide)), if_pos (.inl rfl)]
      simp
  unfold Ok1
  rw [key]
  cases e : s.flag with
  | none =>
    refine ⟨fun q => (by cases q), fun _ => ?_⟩
    show (match s.flag with
      | some (k, m) => if (m ++ l).length = 16 then some { s with hoists := putFlag (seenOf k (m ++ l)) s.hoists, flag := none } else some { s with flag := some (k, m ++ l) }
      | none => none) = none
    rw [e]
  | some y =>
    obtain ⟨k, m⟩ := y
    refine ⟨fun _ => ?_, fun q => (by cases q)⟩
    obtain ⟨g, hg, q1, q2, q3, q4⟩ := r.some_ k m e
    have hh : s.head ≠ none := fun z => by
      have := (r.no z).1
      rw [e] at this
      cases this
    have line : s.line (.cells l) = if (m ++ l).length = 16 then some { s with hoists := putFlag (seenOf k (m ++ l)) s.hoists, flag := none } else some { s with flag := some (k, m ++ l) } := by
      show (match s.flag with
        | some (k, m) => if (m ++ l).length = 16 then some { s with hoists := putFlag (seenOf k (m ++ l)) s.hoists, flag := none } else some { s with flag := some (k, m ++ l) }
        | none => none) = _
      rw [e]
    have el : (m ++ l).length = m.length + 4 := by rw [List.length_append, hl]
    rw [line, el]
    by_cases h16 : m.length + 4 = 16
    · rw [if_pos h16]
      refine ⟨_, rfl, r.hd, ?_, fun z => absurd z hh, fun _ _ z => (by cases z), fun _ g' hg' => ?_⟩
      · show t.n = (putFlag _ s.hoists).length
        rw [putFlag_len]
        exact r.n
      · have hl2 := putFlag_last (seenOf k (m ++ l)) hg
        have e3 : ({ g with flags := g.flags ++ [seenOf k (m ++ l)] } : Glimpse) = g' := Option.some.inj (hl2.symm.trans hg')
        subst e3
        refine ⟨?_, fun _ => ?_⟩
        · show t.f = (g.flags ++ [_]).length
          rw [List.length_append]
          exact q1
        · show t.c + 4 = 16
          omega
    · rw [if_neg h16]
      refine ⟨_, rfl, r.hd, r.n, fun z => absurd z hh, fun k' m' z => ?_, fun z => (by cases z)⟩
      have z' : some (k, m ++ l) = some (k', m') := z
      cases z'
      refine ⟨g, hg, q1, ?_, ?_, ?_⟩
      · show t.c + 4 = _
        omega
      · omega
      · omega
theorem over_iff {s : PlateState} {t : Sti} (r : Rel s t) : (wholeI t = true → ∃ z, s.over = some z ∧ z.hoists.length = t.n) ∧ (wholeI t = false → s.over = none) := by
  have hC := lacksC_iff r
  have hF := lacksF_iff r
  have ov : s.over = match s.head, s.flag, s.hoists.getLast? with
    | some x, none, some g => if g.flags.isEmpty = true then none else some ⟨x.2, x.1, s.hoists⟩
    | _, _, _ => none := rfl
  have w : wholeI t = (decide (t.n ≠ 0) && (!lacksF t && !lacksC t)) := rfl
  rw [ov, w]
  cases e0 : s.head with
  | none =>
    obtain ⟨_, h2⟩ := r.no e0
    have : t.n = 0 := by rw [r.n, h2]; rfl
    refine ⟨fun q => ?_, fun _ => rfl⟩
    rw [this] at q
    cases q
  | some x =>
    cases e1 : s.flag with
    | some y =>
      have : lacksC t = true := hC.mpr (by rw [e1]; rfl)
      rw [this]
      refine ⟨fun q => ?_, fun _ => rfl⟩
      simp at q
    | none =>
      have hc : lacksC t = false := by
        cases e : lacksC t with
        | false => rfl
        | true =>
          have := hC.mp e
          rw [e1] at this
          cases this
      rw [hc]
      cases e2 : s.hoists.getLast? with
      | none =>
        have : t.n = 0 := by rw [r.n]; exact last_none.mp e2
        refine ⟨fun q => ?_, fun _ => rfl⟩
        rw [this] at q
        cases q
      | some g =>
        have h0 : t.n ≠ 0 := fun q => by
          rw [r.n] at q
          rw [last_none.mpr q] at e2
          cases e2
        dsimp only
        cases e3 : g.flags with
        | nil =>
          have : lacksF t = true := hF.mpr ⟨e1, g, e2, e3⟩
          rw [this]
          refine ⟨fun q => ?_, fun _ => rfl⟩
          simp at q
        | cons a b =>
          have hf : lacksF t = false := by
            cases e : lacksF t with
            | false => rfl
            | true =>
              obtain ⟨_, g', hg', z⟩ := hF.mp e
              rw [e2] at hg'
              cases hg'
              rw [e3] at z
              cases z
          rw [hf]
          refine ⟨fun _ => ⟨⟨x.2, x.1, s.hoists⟩, rfl, r.n.symm⟩, fun q => ?_⟩
          simp [h0] at q
/-! ### all lines -/
def OutI (i : Nat) (rest : List Int) (r : Except (Nat × Nat) Sti) (len : Nat) (out : Except Fault Plate) : Prop :=
  match r with
  | .error e => out = .error (e.1, e.2)
  | .ok t => if rest ≠ [] ∨ i + len = 0 then out = .error (1, i + len) else if wholeI t = true then ∃ z, out = .ok z ∧ z.hoists.length = t.n else out = .error (2, i + len)
theorem lines_go : ∀ (ls : List (List Int)) (rest : List Int) (i : Nat) (s : PlateState) (t : Sti), (∀ w ∈ ls, In8 w) → Rel s t →
    OutI i rest (goI i t ls) ls.length (plateLines i s ((ls ++ [rest]).map (·.map B)))
  | [], rest, i, s, t, _, r => by
    show OutI i rest (.ok t) 0 (plateLines i s [rest.map B])
    have e : plateLines i s [rest.map B] = if rest.map B ≠ [] ∨ i = 0 then .error (1, i) else match s.over with
      | some z => .ok z
      | none => .error (2, i) := rfl
    rw [e]
    show (if rest ≠ [] ∨ i + 0 = 0 then _ else _)
    have hr : rest.map B ≠ [] ↔ rest ≠ [] := by simp
    rw [Nat.add_zero]
    by_cases h : rest ≠ [] ∨ i = 0
    · rw [if_pos h, if_pos (show rest.map B ≠ [] ∨ i = 0 from h.imp hr.mpr id)]
    · rw [if_neg h, if_neg (show ¬ (rest.map B ≠ [] ∨ i = 0) from fun z => h (z.imp hr.mp id))]
      obtain ⟨o1, o2⟩ := over_iff r
      by_cases hw : wholeI t = true
      · rw [if_pos hw]
        obtain ⟨z, hz, hn⟩ := o1 hw
        rw [hz]
        exact ⟨z, rfl, hn⟩
      · rw [if_neg hw, o2 (by simpa using hw)]
  | w :: ls, rest, i, s, t, h8, r => by
    have hw := h8 w List.mem_cons_self
    have hsrt := line_sort hw
    have e : plateLines i s (((w :: ls) ++ [rest]).map (·.map B)) = match plateLine (w.map B) with
      | none => .error (1, i)
      | some x => match s.line x with
        | none => .error (2, i)
        | some t => plateLines (i + 1) t ((ls ++ [rest]).map (·.map B)) := by
      cases ls <;> rfl
    rw [e]
    show OutI i rest (match sortI w with
      | none => .error (1, i)
      | some k => if mayI t k = true then goI (i + 1) (putI t k) ls else .error (2, i)) (ls.length + 1) _
    have fin : ∀ (x : PlateLine) (k : Nat), Ok1 s x t k → OutI i rest (if mayI t k = true then goI (i + 1) (putI t k) ls else .error (2, i)) (ls.length + 1) (match s.line x with
        | none => .error (2, i)
        | some t => plateLines (i + 1) t ((ls ++ [rest]).map (·.map B))) := by
      intro x k ok
      by_cases hm : mayI t k = true
      · rw [if_pos hm]
        obtain ⟨s', hs', r'⟩ := ok.1 hm
        rw [hs']
        have ih := lines_go ls rest (i + 1) s' (putI t k) (fun v hv => h8 v (List.mem_cons_of_mem _ hv)) r'
        have ea : i + (ls.length + 1) = i + 1 + ls.length := by omega
        unfold OutI at ih ⊢
        rw [ea]
        exact ih
      · rw [if_neg hm, ok.2 (by simpa using hm)]
        rfl
    cases es : sortI w with
    | none =>
      rw [es] at hsrt
      have : plateLine (w.map B) = none := hsrt
      rw [this]
      rfl
    | some k =>
      rw [es] at hsrt
      match k, hsrt with
      | 0, h =>
        obtain ⟨a, b, h⟩ := h
        rw [h]
        exact fin _ 0 (step_seen r a b)
      | 1, h =>
        obtain ⟨a, b, h⟩ := h
        rw [h]
        exact fin _ 1 (step_hoist r a b)
      | 2, h =>
        obtain ⟨a, h⟩ := h
        rw [h]
        exact fin _ 2 (step_flag r a)
      | k + 3, h =>
        obtain ⟨l, h, hl⟩ := h
        rw [h]
        have hk : k = 0 := by
          unfold sortI at es
          split at es
          · cases es
          · split at es
            · cases es
            · split at es
              · cases es
              · split at es
                · have := Option.some.inj es
                  omega
                · cases es
        subst hk
        exact fin _ 3 (step_cells r hl)
theorem snocD {α : Type} {d : α} : ∀ {l : List α}, l ≠ [] → l.dropLast ++ [l.getLastD d] = l
  | [], h => absurd rfl h
  | [a], _ => rfl
  | a :: b :: r, _ => by
    have ih := snocD (d := d) (l := b :: r) (by simp)
    show a :: ((b :: r).dropLast ++ [(b :: r).getLastD a]) = a :: b :: r
    have e : (b :: r).getLastD a = (b :: r).getLastD d := rfl
    rw [e, ih]
theorem in8_text {p : List Int} (h : In8 p) : PlateNeutral.text? p = some (p.map B) := by
  unfold PlateNeutral.text?
  rw [if_pos ?_]
  · rfl
  · unfold NeutralIO.bytes
    rw [List.all_eq_true]
    intro x hx
    have := h x hx
    simp [this]
theorem judge_eq {p : List Int} (h : In8 p) (hl : p.length ≤ 65536) : PyWqbada.judge p = judgeI p := by
  have e1 : PyWqbada.judge p = (let a := FlagsK9.answer (.judge (p.map B))
      a.ret :: ((a.nums.map fun (n : Nat) => (n : Int)) ++ a.bytes.map fun (b : UInt8) => (b.toNat : Int))) := by
    unfold PyWqbada.judge PlateNeutral.f
    have : PlateNeutral.callOf [[1], p] = some (.judge (p.map B)) := by
      show (PlateNeutral.text? p >>= fun x => some (FlagsK9.Call.judge x)) = _
      rw [in8_text h]
      rfl
    rw [this]
  have e2 : FlagsK9.answer (.judge (p.map B)) = match plateIn (p.map B) with
    | .error e => tells (-8) [e.1, e.2]
    | .ok z => Flags.says (z.hoists.length : Nat) := by
    show (if LOOKED < (p.map B).length then MUCH else _) = _
    rw [List.length_map, if_neg (by show ¬ 65536 < p.length; omega)]
    rfl
  have hne := cutI_ne 10 p
  have e3 : cutAt 10 (p.map B) = (cutI 10 p).map (·.map B) := cut_map 10 (by decide) p h
  have e4 : (cutI 10 p).dropLast ++ [(cutI 10 p).getLastD []] = cutI 10 p := by
    exact snocD hne
  have main := lines_go (cutI 10 p).dropLast ((cutI 10 p).getLastD []) 0 ⟨none, [], none⟩ ⟨false, 0, 0, 0⟩ (fun w hw => cut_in 10 h w (List.dropLast_subset _ hw)) rel0
  rw [e4, ← e3] at main
  have e5 : plateIn (p.map B) = plateLines 0 ⟨none, [], none⟩ (cutAt 10 (p.map B)) := rfl
  have hp : ((cutI 10 p).getLastD [] ≠ [] ∨ 0 + (cutI 10 p).dropLast.length = 0) ↔ (p = [] ∨ (cutI 10 p).getLastD [] ≠ []) := by
    constructor
    · rintro (q | q)
      · exact .inr q
      · by_cases z : (cutI 10 p).getLastD [] = []
        · left
          have d : (cutI 10 p).dropLast = [] := List.length_eq_zero_iff.mp (by omega)
          have g := glue_cut 10 p
          rw [← e4, d, z] at g
          exact g.symm
        · exact .inr z
    · rintro (q | q)
      · right
        rw [q]
        rfl
      · exact .inl q
  rw [e1, e2, e5]
  unfold judgeI
  dsimp only
  cases eg : goI 0 ⟨false, 0, 0, 0⟩ (cutI 10 p).dropLast with
  | error e =>
    rw [eg] at main
    have m : plateLines 0 ⟨none, [], none⟩ (cutAt 10 (p.map B)) = .error (e.1, e.2) := main
    rw [m]
    rfl
  | ok t =>
    rw [eg] at main
    unfold OutI at main
    dsimp only at main
    by_cases c1 : p = [] ∨ (cutI 10 p).getLastD [] ≠ []
    · rw [if_pos (hp.mpr c1)] at main
      show _ = if p = [] ∨ (cutI 10 p).getLastD [] ≠ [] then fault 1 (cutI 10 p).dropLast.length else if wholeI t = true then [(t.n : Int)] else fault 2 (cutI 10 p).dropLast.length
      rw [if_pos c1, main, Nat.zero_add]
      rfl
    · rw [if_neg fun z => c1 (hp.mp z)] at main
      show _ = if p = [] ∨ (cutI 10 p).getLastD [] ≠ [] then fault 1 (cutI 10 p).dropLast.length else if wholeI t = true then [(t.n : Int)] else fault 2 (cutI 10 p).dropLast.length
      rw [if_neg c1]
      by_cases c2 : wholeI t = true
      · rw [if_pos c2] at main
        obtain ⟨z, hz, hn⟩ := main
        rw [if_pos c2, hz]
        show [((z.hoists.length : Nat) : Int)] = _
        rw [hn]
      · rw [if_neg c2] at main
        rw [if_neg c2, main, Nat.zero_add]
        rfl
theorem judge_long {p : List Int} (h : In8 p) (hl : 65536 < p.length) : PyWqbada.judge p = [-2] := by
  unfold PyWqbada.judge PlateNeutral.f
  have : PlateNeutral.callOf [[1], p] = some (.judge (p.map B)) := by
    show (PlateNeutral.text? p >>= fun x => some (FlagsK9.Call.judge x)) = _
    rw [in8_text h]
    rfl
  rw [this]
  show (let a := FlagsK9.answer (.judge (p.map B))
      a.ret :: ((a.nums.map fun (n : Nat) => (n : Int)) ++ a.bytes.map fun (b : UInt8) => (b.toNat : Int))) = _
  have e2 : FlagsK9.answer (.judge (p.map B)) = MUCH := by
    show (if LOOKED < (p.map B).length then MUCH else _) = _
    rw [List.length_map, if_pos (by show 65536 < p.length; omega)]
  rw [e2]
  rfl
end JM
end
section
set_option Elab.async false
set_option linter.all false
set_option maxRecDepth 100000
set_option maxHeartbeats 2000000
namespace HD
open PySem PySem.Spec PyProof.Rows L2
open PySem.W (Codec)
def top (i : Nat) : Stmt := PySem.Challenge.pw_halfseendesk_s01_judge.main.body.getD i (.Pass ⟨0, 0, 0, 0⟩)
abbrev sSpelled : Stmt := top 7
abbrev sCut : Stmt := top 8
abbrev sAmong : Stmt := top 9
abbrev sPlaces : Stmt := top 10
abbrev sColours : Stmt := top 11
/-! ### words about heaps -/
/-- a new thing lies at p; all else is as it was -/
def New (H H' : Hp) (p : Addr) (o : HO) : Prop := Same H H' ∧ H p = none ∧ H' p = some o
theorem same_upd {H : Hp} {p : Addr} {o : HO} (h : H p = none) : Same H (upd H p o) := fun b u e => by rw [upd_ne (ne_of_none e h)]; exact e
theorem same_upd2 {H H1 : Hp} {p : Addr} {o : HO} (s : Same H H1) (h : H p = none) : Same H (upd H1 p o) := fun b u e => by rw [upd_ne (ne_of_none e h)]; exact s b u e
def codes (x : Str) : List Int := x.cps.toList.map fun n => ((n : Nat) : Int)
abbrev iv (l : List Int) : List V := l.map V.int
theorem iv_snoc (l : List Int) (z : Int) : iv (l ++ [z]) = iv l ++ [.int z] := by
  unfold iv
  rw [List.map_append]
  rfl
theorem yes_if {σ : L2.St} {H : Hp} {A B : Hp → Prop} (h : A H) : tYes σ H (fun b H3 => if b = true then A H3 else B H3) := by
  unfold tYes
  dsimp only
  rw [if_pos rfl]
  exact h
theorem take_snoc {α : Type} {l : List α} {i : Nat} {x : α} (h : l[i]? = some x) : l.take (i + 1) = l.take i ++ [x] := by
  rw [List.take_succ, h]
  rfl
theorem line_ge {n : Nat} (h : n ≤ 1000000) : n < sizeLine := Nat.lt_of_le_of_lt h (by rw [sizeLine_eq]; decide)
/-! ### spelled -/
def spSpelled : Sp := fun vs H Q _ => ∃ x : Str, vs = [.str x] ∧ x.cps.size ≤ 1000 ∧ ∀ H' p, New H H' p (.lst (iv (codes x))) → Q (.ref p) H'
section
variable {P : Program} {w : World} {K : PySem.W.Frag} {mg : Str → Option Value} {base : Heap}
theorem scSpelled : FnScope ["written", "sign"] ["written"] (defScope sSpelled) := ⟨rfl, rfl, rfl, by decide +kernel, rfl, by decide +kernel, by decide +kernel⟩
theorem ok_spelled {f : Addr} {fd : FuncData} (F : Fun K "spelled" "spelled" sSpelled f fd) (tOrd : mg "ord" = none) : FnOk P w K mg base CX0 1 f fd ["written"] spSpelled := by
  refine F.ok scSpelled (fun vs H Q E h => ?_) (fun cdv A outer s H vs Q E hr h => ?_)
  · obtain ⟨x, rfl, _⟩ := h
    rfl
  · obtain ⟨x, rfl, hx, k⟩ := h
    refine ⟨_, pss_one (ps_ret (pe_lc (own := [("sign", 1)]) rfl scSpelled.nd (pi_str (pv 0)) (blkOk_by (N := ["written", "sign"]) (sc := defScope sSpelled) (by decide +kernel)) (fun _ _ _ _ _ => pg_name (i := 1) scSpelled.nd rfl (Or.inl rfl)) (fun _ _ _ _ _ => pts_nil)
      (fun _ _ _ _ _ => pe_callB call_ord (by rfl) tOrd boot_ord (pa_cons (pv 1) pa_nil)))), ?_⟩
    refine ⟨_, rfl, x, rfl, fun D hD => lc_str (fun i H' => Same H H' ∧ H' D = some (.lst (iv ((codes x).take i)))) ⟨same_upd hD, upd_same⟩ (fun i c H' hc ⟨s1, hd⟩ => ⟨rfl, yes_if ?_⟩) (fun H' ⟨s1, hd⟩ => ?_)⟩
    · have hl : i < x.cps.size := (Array.getElem?_eq_some_iff.mp hc).1
      have hcx : (codes x)[i]? = some (c : Int) := by
        unfold codes
        rw [List.getElem?_map, Array.getElem?_toList, hc]
        rfl
      refine ⟨_, rfl, _, rfl, rfl, _, hd, ?_, same_upd2 s1 hD, ?_⟩
      · rw [List.length_map, List.length_take]
        exact Nat.lt_of_le_of_lt (Nat.min_le_left _ _) (line_ge (by omega))
      · rw [upd_same, take_snoc hcx, iv_snoc]
        rfl
    · refine k H' D ⟨s1, hD, ?_⟩
      rw [hd]
      have : (codes x).length = x.cps.size := by unfold codes; rw [List.length_map, Array.length_toList]
      rw [← this, List.take_length]
/-! ### cut -/
/-- the lists at qs hold L -/
abbrev Pts (H : Hp) (qs : List Addr) (L : List (List Int)) : Prop := Paired (fun q l => H q = some (.lst (iv l))) qs L
def spCut (K : PySem.W.Frag) : Sp := fun vs H Q _ => ∃ (a : Addr) (m : Int) (ns : List Int), vs = [.ref a, .int m] ∧ SqL K H a (iv ns) ∧ ns.length ≤ 100000 ∧
  ∀ H' p qs, New H H' p (.lst (qs.map V.ref)) → Pts H' qs (JM.cutI m ns) → qs.Nodup → p ∉ qs → (∀ q ∈ qs, H q = none) → Q (.ref p) H'
theorem Pts.len {H : Hp} {qs : List Addr} {L : List (List Int)} (h : Pts H qs L) : qs.length = L.length := Paired.length h
theorem Pts.upd {H : Hp} {p : Addr} {o : HO} : ∀ {qs : List Addr} {L : List (List Int)}, Pts H qs L → p ∉ qs → Pts (upd H p o) qs L
  | _, _, .nil, _ => .nil
  | _, _, .cons r t, n => .cons (by rw [upd_ne (fun z => n (by rw [z]; exact List.mem_cons_self))]; exact r) (Pts.upd t fun z => n (List.mem_cons_of_mem _ z))
theorem Pts.mem {H : Hp} : ∀ {qs : List Addr} {L : List (List Int)}, Pts H qs L → ∀ q ∈ qs, ∃ l ∈ L, H q = some (.lst (iv l))
  | _, _, .nil, q, h => absurd h (by simp)
  | _, _, .cons r t, q, h => by
    rcases List.mem_cons.mp h with rfl | h
    · exact ⟨_, List.mem_cons_self, r⟩
    · obtain ⟨l, hl, e⟩ := Pts.mem t q h
      exact ⟨l, List.mem_cons_of_mem _ hl, e⟩
theorem Pts.snoc {H : Hp} {q : Addr} {l : List Int} (e : H q = some (.lst (iv l))) : ∀ {qs : List Addr} {L : List (List Int)}, Pts H qs L → Pts H (qs ++ [q]) (L ++ [l])
  | _, _, .nil => .cons e .nil
  | _, _, .cons r t => .cons r (Pts.snoc e t)
theorem Pts.last {H : Hp} : ∀ {qs : List Addr} {L : List (List Int)}, Pts H qs L → L ≠ [] → ∃ qs' q, qs = qs' ++ [q] ∧ Pts H qs' L.dropLast ∧ H q = some (.lst (iv (L.getLastD [])))
  | _, _, .nil, h => absurd rfl h
  | [q], [l], .cons r .nil, _ => ⟨[], q, rfl, .nil, r⟩
  | q :: q2 :: qs, l :: l2 :: L, .cons r t, _ => by
    obtain ⟨qs', q', e, t', r'⟩ := Pts.last t (by simp)
    exact ⟨q :: qs', q', by rw [e]; rfl, .cons r t', r'⟩
theorem scCut : FnScope ["text", "mark", "parts", "byte"] ["text", "mark"] (defScope sCut) := ⟨rfl, rfl, rfl, by decide +kernel, rfl, by decide +kernel, by decide +kernel⟩
theorem cut_len (m : Int) : ∀ l : List Int, (JM.cutI m l).length ≤ l.length + 1
  | [] => by simp [JM.cutI]
  | x :: r => by
    have ih := cut_len m r
    unfold JM.cutI
    split
    · simp only [List.length_cons]; omega
    · split
      · simp
      · rename_i w l e
        rw [e] at ih
        simp only [List.length_cons] at ih ⊢
        omega
theorem cut_part (m : Int) : ∀ (l : List Int) (w : List Int), w ∈ JM.cutI m l → w.length ≤ l.length
  | [], w, h => by
    simp [JM.cutI] at h
    simp [h]
  | x :: r, w, h => by
    have ih := cut_part m r
    unfold JM.cutI at h
    split at h
    · rcases List.mem_cons.mp h with rfl | h
      · simp
      · have := ih w h
        simp only [List.length_cons]; omega
    · cases e : JM.cutI m r with
      | nil => exact absurd e (JM.cutI_ne m r)
      | cons w' l =>
        rw [e] at h ih
        rcases List.mem_cons.mp h with rfl | h
        · have := ih w' List.mem_cons_self
          simp only [List.length_cons]; omega
        · have := ih w (List.mem_cons_of_mem _ h)
          simp only [List.length_cons]; omega
theorem ok_cut {f : Addr} {fd : FuncData} (F : Fun K "cut" "cut" sCut f fd) : FnOk P w K mg base CX0 1 f fd ["text", "mark"] (spCut K) := by
  refine F.ok scCut (fun vs H Q E h => ?_) (fun cdv A outer s H vs Q E hr h => ?_)
  · obtain ⟨a, m, ns, rfl, _⟩ := h
    rfl
  · obtain ⟨a, m, ns, rfl, hS, hl, k⟩ := h
    refine ⟨_, pss_cons (ps_set (i := 2) scCut.nd rfl (Or.inl rfl) (pe_lst (pa_cons (pe_lst pa_nil) pa_nil)))
      (pss_cons (ps_for PassesOwn.never rfl (pi_list (pv 0)) (pg_name (i := 3) scCut.nd rfl (Or.inl rfl))
        (pss_one (ps_if (pt_cmpR op_eq (pv 3) (pv 1) (nomark _))
          (pss_one (ps_expr (pe_bm PySem.F.plainAttrs_list PySem.F.slot_list_append PySem.F.type_list_append mt_append (pv 2) (pa_cons (pe_lst pa_nil) pa_nil))))
          (pss_one (ps_expr (pe_bm PySem.F.plainAttrs_list PySem.F.slot_list_append PySem.F.type_list_append mt_append (pe_ix ix_list (pv 2) (pe_un un_neg pe_int) (fun _ _ => rfl)) (pa_cons (pv 3) pa_nil)))))))
      (pss_one (ps_ret (pv 2)))), ?_⟩
    refine ⟨Nat.zero_le _, fun q0 hq0 => ⟨(by show 1 ≤ sizeLine; decide), fun p hp => ?_⟩⟩
    have hp0 : H p = none := (same_upd hq0).free hp
    have pq : p ≠ q0 := fun z => by rw [z, upd_same] at hp; cases hp
    refine ⟨_, rfl, a, rfl, ⟨_, (same_upd2 (same_upd hq0) hp0).seq hS⟩, for_list (K := K) (a := a) (xs := iv ns) (fun i σ H' => ∃ (v : Option V) (qs : List Addr), σ = [some (.ref a), some (.int m), some (.ref p), v] ∧ Same H H' ∧ H' p = some (.lst (qs.map V.ref)) ∧ Pts H' qs (JM.cutI m (ns.take i)) ∧ qs.Nodup ∧ p ∉ qs ∧ ∀ q ∈ qs, H q = none)
      ⟨none, [q0], rfl, same_upd2 (same_upd hq0) hp0, upd_same, .cons (by rw [upd_ne (Ne.symm pq)]; exact upd_same) .nil, by simp, by simpa using pq, by simpa using hq0⟩ (fun i σ H' _ ⟨_, _, _, s1, _⟩ => s1.seq hS) ?_ ?_⟩
    · rintro i y σ H' hi ⟨v, qs, rfl, s1, h1, h2, h3, h4, h5⟩
      obtain ⟨z, hz, rfl⟩ : ∃ z, ns[i]? = some z ∧ y = V.int z := by
        rw [List.getElem?_map] at hi
        cases e : ns[i]? with
        | none => rw [e] at hi; cases hi
        | some z => rw [e] at hi; exact ⟨z, rfl, (Option.some.inj hi).symm⟩
      have hil : i < ns.length := (List.getElem?_eq_some_iff.mp hz).1
      have et := take_snoc hz
      have ec := JM.cutI_snoc m z (ns.take i)
      have lq : qs.length ≤ i + 1 := by
        rw [h2.len]
        refine Nat.le_trans (cut_len m _) ?_
        rw [List.length_take]
        omega
      refine ⟨_, rfl, _, rfl, rfl, _, rfl, ite2 (fun hc => ?_) (fun hc => ?_)⟩
      · have hc : z = m := by simpa using hc
        refine ⟨_, rfl, .inl ⟨rfl, _, SqL.of h1⟩, Nat.zero_le _, fun q hq => ⟨p, _, _, rfl, rfl, (by rw [upd_ne (ne_of_none h1 hq)]; exact h1), (by rw [List.length_map]; exact line_ge (by omega)), ?_⟩⟩
        have hqH : H q = none := s1.free hq
        have hqq : q ∉ qs := fun hm => by
          obtain ⟨l, _, r⟩ := Pts.mem h2 q hm
          rw [r] at hq
          cases hq
        refine ⟨_, qs ++ [q], rfl, same_upd2 (same_upd2 s1 hqH) hp0, ?_, ?_, ?_, ?_, ?_⟩
        · rw [upd_same, List.map_append]
          rfl
        · rw [et, ec]
          unfold JM.cutPut
          rw [if_pos hc]
          exact Pts.upd (Pts.snoc (l := []) upd_same (Pts.upd h2 hqq)) (fun z => by
            rcases List.mem_append.mp z with z | z
            · exact h4 z
            · exact ne_of_none h1 hq (by simpa using z))
        · exact nd_snoc h3 hqq
        · intro z
          rcases List.mem_append.mp z with z | z
          · exact h4 z
          · exact ne_of_none h1 hq (by simpa using z)
        · intro q' z
          rcases List.mem_append.mp z with z | z
          · exact h5 q' z
          · rw [show q' = q by simpa using z]
            exact hqH
      · have hc : ¬ z = m := by simpa using hc
        obtain ⟨qs', q, rfl, t', r'⟩ := Pts.last h2 (JM.cutI_ne m _)
        have nqs : q ∉ qs' := fun z => by
          have := (List.nodup_append.mp h3).2.2 q z q (by simp)
          exact this rfl
        refine ⟨_, rfl, _, rfl, p, _, _, V.ref q, rfl, rfl, SqL.of h1, ?_, .inl ⟨rfl, _, SqL.of r'⟩, _, rfl, q, _, _, rfl, rfl, r', ?_, ?_⟩
        · rw [List.map_append]
          exact atI_last _ _
        · rw [List.length_map]
          have : ((JM.cutI m (ns.take i)).getLastD []).length ≤ (ns.take i).length := by
            refine cut_part m _ _ ?_
            rw [List.getLastD_eq_getLast?]
            cases e : (JM.cutI m (ns.take i)).getLast? with
            | none => exact absurd (List.getLast?_eq_none_iff.mp e) (JM.cutI_ne m _)
            | some l => exact List.mem_of_getLast? e
          rw [List.length_take] at this
          exact line_ge (by omega)
        · have np : p ≠ q := fun z => h4 (by rw [z]; simp)
          refine ⟨_, qs' ++ [q], rfl, same_upd2 s1 (h5 q (by simp)), by rw [upd_ne np]; exact h1, ?_, h3, h4, h5⟩
          rw [et, ec]
          unfold JM.cutPut
          rw [if_neg hc]
          refine Pts.snoc ?_ (Pts.upd t' nqs)
          rw [upd_same]
          exact congrArg (fun z => some (HO.lst z)) (iv_snoc _ _).symm
    · rintro σ H' ⟨v, qs, rfl, s1, h1, h2, h3, h4, h5⟩
      rw [List.length_map, List.take_length] at h2
      exact ⟨_, rfl, k H' p qs ⟨s1, hp0, h1⟩ h2 h3 h4 h5⟩
end
end HD
end
section
set_option Elab.async false
set_option linter.all false
set_option maxRecDepth 100000
set_option maxHeartbeats 2000000
namespace HD
open PySem PySem.Spec PyProof.Rows L2
open PySem.W (Codec)
/-! ### place_among -/
def oI : Option Nat → V
  | some i => .int (i : Nat)
  | none => .non
def amongI (words : List (List Int)) (part : List Int) : Option Nat := words.findIdx? fun w => decide (w = part)
def spAmong (K : PySem.W.Frag) : Sp := fun vs H Q _ => ∃ (aw ap : Addr) (words : List Str) (part : List Int), vs = [.ref aw, .ref ap] ∧ SqT K H aw (words.map V.str) ∧ (∀ x ∈ words, x.cps.size ≤ 1000) ∧ SqL K H ap (iv part) ∧
  ∀ H', Same H H' → Q (oI (amongI (words.map codes) part)) H'
theorem find_none {α : Type} {p : α → Bool} {l : List α} (h : ∀ x ∈ l, p x = false) : l.findIdx? p = none := by
  rw [List.findIdx?_eq_none_iff]
  exact h
theorem find_at {α : Type} {p : α → Bool} : ∀ {l : List α} {i : Nat} {x : α}, l[i]? = some x → (∀ y ∈ l.take i, p y = false) → p x = true → l.findIdx? p = some i
  | [], i, x, h, _, _ => by simp at h
  | a :: l, 0, x, h, _, hp => by
    have e : a = x := Option.some.inj h
    subst e
    rw [List.findIdx?_cons, hp]
    rfl
  | a :: l, i + 1, x, h, hn, hp => by
    have h1 : p a = false := hn a (by simp)
    have ih := find_at (l := l) (i := i) (x := x) h (fun y hy => hn y (by rw [List.take_succ_cons]; exact List.mem_cons_of_mem _ hy)) hp
    rw [List.findIdx?_cons, h1, ih]
    rfl
theorem Same.tup {K : PySem.W.Frag} {H H' : Hp} {a : Addr} {xs : List V} (e : Same H H') (h : SqT K H a xs) : SqT K H' a xs := by
  rcases h with (h | ⟨o, h⟩) | h
  · exact .inl (.inl (e _ _ h))
  · exact .inl (.inr ⟨o, e _ _ h⟩)
  · exact .inr h
section
variable {P : Program} {w : World} {K : PySem.W.Frag} {mg : Str → Option Value} {base : Heap}
theorem scAmong : FnScope ["words", "part", "place", "word"] ["words", "part"] (defScope sAmong) := ⟨rfl, rfl, rfl, by decide +kernel, rfl, by decide +kernel, by decide +kernel⟩
theorem ok_among {f fS : Addr} {fd fdS : FuncData} (F : Fun K "place_among" "place_among" sAmong f fd) (tE : mg "enumerate" = none) (GS : FnOk P w K mg base CX0 1 fS fdS ["written"] spSpelled) (mS : mg "spelled" = some (.ref fS)) (kS : PySem.W.keepIn K (.ref fS) = true) (bS : Binds K fdS ["written"] []) :
    FnOk P w K mg base CX0 2 f fd ["words", "part"] (spAmong K) := by
  refine F.ok scAmong (fun vs H Q E h => ?_) (fun cdv A outer s H vs Q E hr h => ?_)
  · obtain ⟨aw, ap, words, part, rfl, _⟩ := h
    rfl
  · obtain ⟨aw, ap, words, part, rfl, hW, hw, hP, k⟩ := h
    refine ⟨_, pss_cons (ps_for PassesOwn.never rfl (pi_enumT (by rfl) tE (pa_cons (pv 0) pa_nil)) (pg_tup rfl (pgs_cons (pg_name (i := 2) scAmong.nd rfl (Or.inl rfl)) (pgs_cons (pg_name (i := 3) scAmong.nd rfl (Or.inl rfl)) pgs_nil)))
        (pss_one (ps_if (pt_cmpR (op_eqL hr.units) (pe_call GS hr rfl mS kS bS .nil pass0 (pa_cons (pv 3) pa_nil)) (pv 1) (nomark _)) (pss_one (ps_ret (pv 2))) pss_nil)))
      (pss_one (ps_ret pe_non)), ?_⟩
    refine ⟨_, rfl, aw, _, rfl, hW, for_enumT (K := K) (a := aw) (xs := words.map V.str) (fun i σ H' => ∃ v2 v3 : Option V, σ = [some (.ref aw), some (.ref ap), v2, v3] ∧ Same H H' ∧ ∀ y ∈ (words.map codes).take i, decide (y = part) = false)
      ⟨none, none, rfl, Same.refl H, fun y hy => absurd hy (by simp)⟩ (fun i σ H' _ ⟨_, _, _, s1, _⟩ => Same.tup s1 hW) ?_ ?_⟩
    · rintro i y T σ H' hi ⟨v2, v3, rfl, s1, hn⟩ hT
      obtain ⟨x, hx, rfl⟩ : ∃ x, words[i]? = some x ∧ y = V.str x := by
        rw [List.getElem?_map] at hi
        cases e : words[i]? with
        | none => rw [e] at hi; cases hi
        | some z => rw [e] at hi; exact ⟨z, rfl, (Option.some.inj hi).symm⟩
      have s2 := same_upd2 (o := .tup [.int (i : Nat), .str x]) s1 (s1.free hT)
      refine ⟨T, _, rfl, SqT.of upd_same, rfl, _, _, rfl, _, _, rfl, rfl, _, rfl, x, rfl, hw x (List.mem_of_getElem? hx), fun H2 p hN => ?_⟩
      have s3 := s2.trans hN.1
      have hcx : (words.map codes)[i]? = some (codes x) := by rw [List.getElem?_map, hx]; rfl
      refine ⟨_, rfl, p, ap, codes x, part, rfl, rfl, SqL.of hN.2.2, s3.seq hP, _, rfl, ite2 (fun hc => ?_) (fun hc => ?_)⟩
      · refine ⟨_, rfl, ?_⟩
        have e := find_at hcx hn hc
        have q := k H2 s3
        unfold amongI at q
        rw [e] at q
        exact q
      · refine ⟨_, _, rfl, s3, fun y hy => ?_⟩
        rw [take_snoc hcx] at hy
        rcases List.mem_append.mp hy with hy | hy
        · exact hn y hy
        · rw [List.mem_singleton.mp hy]
          simpa using hc
    · rintro σ H' ⟨v2, v3, rfl, s1, hn⟩
      have q := k H' s1
      rw [List.length_map] at hn
      unfold amongI at q
      rw [find_none (fun y hy => hn y (by rw [← List.length_map (f := codes), List.take_length]; exact hy))] at q
      exact q
/-! ### places_in -/
def placesI (signs part : List Int) : Option (List Int) := if part.all (fun b => signs.contains b) = true then some (part.map fun b => ((signs.idxOf b : Nat) : Int)) else none
def spPlaces (K : PySem.W.Frag) : Sp := fun vs H Q _ => ∃ (x : Str) (ap : Addr) (part : List Int), vs = [.str x, .ref ap] ∧ x.cps.size ≤ 1000 ∧ SqL K H ap (iv part) ∧ part.length ≤ 100000 ∧
  (placesI (codes x) part = none → ∀ H', Same H H' → Q .non H') ∧ ∀ l, placesI (codes x) part = some l → ∀ H' p, New H H' p (.lst (iv l)) → Q (.ref p) H'
theorem inV_iv (b : Int) : ∀ l : List Int, inV (.int b) (iv l) = l.contains b
  | [] => rfl
  | x :: l => by
    have ih := inV_iv b l
    unfold inV iv at ih ⊢
    rw [List.map_cons, List.any_cons, ih, List.contains_cons]
    congr 1
    show (x == b) = (b == x)
    by_cases h : x = b
    · subst h; rfl
    · have h2 : ¬ b = x := fun z => h z.symm
      rw [beq_eq_false_iff_ne.mpr h, beq_eq_false_iff_ne.mpr h2]
theorem flat_iv : ∀ l : List Int, (iv l).all flatV = true
  | [] => rfl
  | x :: l => by
    show (flatV (.int x) && (iv l).all flatV) = true
    rw [flat_iv l]
    rfl
theorem getI {l : List Int} {i : Nat} {y : V} (h : (iv l)[i]? = some y) : ∃ z, l[i]? = some z ∧ y = V.int z := by
  unfold iv at h
  rw [List.getElem?_map] at h
  cases e : l[i]? with
  | none => rw [e] at h; cases h
  | some z => rw [e] at h; exact ⟨z, rfl, (Option.some.inj h).symm⟩
theorem bl_snoc (l : List Bool) (b : Bool) : (l ++ [b]).map V.bl = l.map V.bl ++ [.bl b] := by
  rw [List.map_append]
  rfl
theorem idx_at {l : List Int} {b : Int} (h : l.contains b = true) : ∃ j z, l.idxOf b = j ∧ (iv l)[j]? = some z ∧ eqV z (.int b) = true ∧ ∀ (m : Nat) (z' : V), m < j → (iv l)[m]? = some z' → eqV z' (.int b) = false := by
  have hm : b ∈ l := by simpa using h
  have hlt : l.idxOf b < l.length := List.idxOf_lt_length_of_mem hm
  refine ⟨_, .int b, rfl, ?_, ?_, fun m z' hm' hz => ?_⟩
  · unfold iv
    rw [List.getElem?_map, List.getElem?_eq_getElem hlt, List.getElem_idxOf]
    rfl
  · show (b == b) = true
    exact beq_self_eq_true b
  · obtain ⟨z, hz2, rfl⟩ := getI hz
    show (z == b) = false
    have := List.not_of_lt_findIdx (p := (· == b)) (xs := l) (i := m) hm'
    obtain ⟨hl, e⟩ := List.getElem?_eq_some_iff.mp hz2
    rw [e] at this
    simpa using this
theorem scPlaces : FnScope ["signs", "part", "known", "byte"] ["signs", "part"] (defScope sPlaces) := ⟨rfl, rfl, rfl, by decide +kernel, rfl, by decide +kernel, by decide +kernel⟩
theorem ok_places {f fS : Addr} {fd fdS : FuncData} (F : Fun K "places_in" "places_in" sPlaces f fd) (tA : mg "all" = none) (GS : FnOk P w K mg base CX0 1 fS fdS ["written"] spSpelled) (mS : mg "spelled" = some (.ref fS)) (kS : PySem.W.keepIn K (.ref fS) = true) (bS : Binds K fdS ["written"] []) :
    FnOk P w K mg base CX0 2 f fd ["signs", "part"] (spPlaces K) := by
  refine F.ok scPlaces (fun vs H Q E h => ?_) (fun cdv A outer s H vs Q E hr h => ?_)
  · obtain ⟨x, ap, part, rfl, _⟩ := h
    rfl
  · obtain ⟨x, ap, part, rfl, hx, hP, hl, k0, k1⟩ := h
    refine ⟨_, pss_cons (ps_set (i := 2) scPlaces.nd rfl (Or.inr rfl) (pe_call GS hr rfl mS kS bS .nil pass0 (pa_cons (pv 0) pa_nil)))
      (pss_cons (ps_if (pt_not (pt_val (pe_callB (cr_all rfl) (by rfl) tA boot_all (pa_cons (pe_lc (own := [("byte", 3)]) (te := tOp (rIn K false) (tVar 3) (tVar 2)) rfl scPlaces.nd (pi_list (pv 1)) (blkOk_by (N := ["signs", "part", "known", "byte"]) (sc := defScope sPlaces) (by decide +kernel)) (fun _ _ _ _ _ => pg_name (i := 3) scPlaces.nd rfl (Or.inl rfl)) (fun _ _ _ _ _ => pts_nil)
            (fun _ _ _ _ _ => pe_cmpR op_in_seq (pv 3) (pv 2) (by with_unfolding_all rfl))) pa_nil)))) (pss_one (ps_ret pe_non)) pss_nil)
      (pss_one (ps_ret (pe_lc (own := [("byte", 3)]) (te := tBM K "list" (rIndex K) (tVar 2) (tCons (tVar 3) tNil)) rfl scPlaces.nd (pi_list (pv 1)) (blkOk_by (N := ["signs", "part", "known", "byte"]) (sc := defScope sPlaces) (by decide +kernel)) (fun _ _ _ _ _ => pg_name (i := 3) scPlaces.nd rfl (Or.inl rfl)) (fun _ _ _ _ _ => pts_nil)
            (fun _ _ _ _ _ => pe_bm PySem.F.plainAttrs_list PySem.F.slot_list_index PySem.F.type_list_index mt_index (pv 2) (pa_cons (pv 3) pa_nil)))))), ?_⟩
    refine ⟨_, rfl, x, rfl, hx, fun H1 pk hN => ?_⟩
    have s1 := hN.1
    refine ⟨_, rfl, ap, rfl, ⟨_, s1.seq hP⟩, fun D hD => lc_list (K := K) (a := ap) (xs := iv part) (fun i H' => Same H1 H' ∧ H' D = some (.lst (((part.take i).map fun b => (codes x).contains b).map V.bl))) ⟨same_upd hD, upd_same⟩
      (fun i H' _ ⟨s2, _⟩ => (s1.trans s2).seq hP) (fun i y H' hi ⟨s2, hd⟩ => ?_) (fun H' ⟨s2, hd⟩ => ?_)⟩
    · obtain ⟨z, hz, rfl⟩ := getI hi
      have hil : i < part.length := (List.getElem?_eq_some_iff.mp hz).1
      refine ⟨rfl, yes_if ⟨_, rfl, _, rfl, pk, _, rfl, .inl (SqL.of (s2 _ _ hN.2.2)), rfl, flat_iv _, _, hd, ?_, same_upd2 s2 hD, ?_⟩⟩
      · rw [List.length_map, List.length_map, List.length_take]
        exact line_ge (by omega)
      · rw [upd_same, take_snoc hz, List.map_append]
        show some (HO.lst (_ ++ [V.bl (inV (.int z) (iv (codes x)))])) = some (HO.lst ((_ ++ [_]).map V.bl))
        rw [bl_snoc, inV_iv]
    · rw [show (iv part).length = part.length by unfold iv; rw [List.length_map], List.take_length] at hd
      refine ⟨D, _, rfl, SqL.of hd, _, rfl, ?_⟩
      have ea : (part.map fun b => (codes x).contains b).all id = part.all fun b => (codes x).contains b := by
        rw [List.all_map]
        rfl
      rw [ea]
      show if (!(part.all fun b => (codes x).contains b)) = true then _ else _
      refine ite2 (fun hc => ?_) (fun hc => ?_)
      · have hc : part.all (fun b => (codes x).contains b) = false := by simpa using hc
        refine k0 ?_ H' (s1.trans s2)
        unfold placesI
        rw [hc]
        rfl
      · have hc : part.all (fun b => (codes x).contains b) = true := by simpa using hc
        have e1 : placesI (codes x) part = some (part.map fun b => (((codes x).idxOf b : Nat) : Int)) := by
          unfold placesI
          rw [if_pos hc]
        refine ⟨_, rfl, ap, rfl, ⟨_, (s1.trans s2).seq hP⟩, fun D2 hD2 => lc_list (K := K) (a := ap) (xs := iv part) (fun i H'' => Same H' H'' ∧ H'' D2 = some (.lst (iv ((part.take i).map fun b => (((codes x).idxOf b : Nat) : Int))))) ⟨same_upd hD2, upd_same⟩
          (fun i H'' _ ⟨s3, _⟩ => ((s1.trans s2).trans s3).seq hP) (fun i y H'' hi ⟨s3, hd3⟩ => ?_) (fun H'' ⟨s3, hd3⟩ => ?_)⟩
        · obtain ⟨z, hz, rfl⟩ := getI hi
          have hil : i < part.length := (List.getElem?_eq_some_iff.mp hz).1
          obtain ⟨j, zz, ej, hj, hj1, hj2⟩ := idx_at (List.all_eq_true.mp hc z (List.mem_of_getElem? hz))
          have hk := (s2.trans s3) _ _ hN.2.2
          refine ⟨rfl, yes_if ⟨_, rfl, .inl ⟨rfl, _, SqL.of hk⟩, _, rfl, pk, _, _, j, zz, rfl, rfl, SqL.of hk, rfl, flat_iv _, hj, hj1, hj2, _, hd3, ?_, same_upd2 s3 hD2, ?_⟩⟩
          · unfold iv
            rw [List.length_map, List.length_map, List.length_take]
            exact line_ge (by omega)
          · rw [upd_same, take_snoc hz, List.map_append, ← ej]
            exact congrArg (fun z => some (HO.lst z)) (iv_snoc _ _).symm
        · rw [show (iv part).length = part.length by unfold iv; rw [List.length_map], List.take_length] at hd3
          exact k1 _ e1 H'' D2 ⟨(s1.trans s2).trans s3, (s1.trans s2).free hD2, hd3⟩
/-! ### read_colours -/
def coloursI (part : List Int) : Option (List Int) := if part.length = 16 then placesI JM.hexs part else none
def spColours (K : PySem.W.Frag) : Sp := fun vs H Q _ => ∃ (ap : Addr) (part : List Int), vs = [.ref ap] ∧ SqL K H ap (iv part) ∧ part.length ≤ 100000 ∧
  (coloursI part = none → ∀ H', Same H H' → Q .non H') ∧ ∀ l, coloursI part = some l → ∀ H' p, New H H' p (.lst (iv l)) → Q (.ref p) H'
theorem scColours : FnScope ["part"] ["part"] (defScope sColours) := ⟨rfl, rfl, rfl, by decide +kernel, rfl, by decide +kernel, by decide +kernel⟩
theorem iv_len (l : List Int) : (iv l).length = l.length := by unfold iv; rw [List.length_map]
theorem ok_colours {f fP : Addr} {fd fdP : FuncData} (F : Fun K "read_colours" "read_colours" sColours f fd) (tL : mg "len" = none) {uC : Value} (mC : mg "COLOUR_SIGNS" = some uC) (rC : RelV (.str "0123456789abcdef") uC)
    (GP : FnOk P w K mg base CX0 2 fP fdP ["signs", "part"] (spPlaces K)) (mP : mg "places_in" = some (.ref fP)) (kP : PySem.W.keepIn K (.ref fP) = true) (bP : Binds K fdP ["signs", "part"] []) :
    FnOk P w K mg base CX0 3 f fd ["part"] (spColours K) := by
  refine F.ok scColours (fun vs H Q E h => ?_) (fun cdv A outer s H vs Q E hr h => ?_)
  · obtain ⟨ap, part, rfl, _⟩ := h
    rfl
  · obtain ⟨ap, part, rfl, hP, hl, k0, k1⟩ := h
    refine ⟨_, pss_cons (ps_if (pt_cmpR op_ne (pe_callB call_len_seq (by rfl) tL PySem.boot_len (pa_cons (pv 0) pa_nil)) pe_int (nomark _)) (pss_one (ps_ret pe_non)) pss_nil)
      (pss_one (ps_ret (pe_call GP hr rfl mP kP bP .nil pass0 (pa_cons (pe_glob (by rfl) mC rC) (pa_cons (pv 0) pa_nil))))), ?_⟩
    refine ⟨_, rfl, ap, _, rfl, .inl hP, rfl, _, rfl, ite2 (fun hc => ?_) (fun hc => ?_)⟩
    · have hc : ¬ part.length = 16 := by
        intro z
        rw [iv_len, z] at hc
        exact absurd hc (by decide)
      refine k0 ?_ H (Same.refl H)
      unfold coloursI
      rw [if_neg hc]
    · have hc : part.length = 16 := by
        by_cases z : part.length = 16
        · exact z
        · exfalso
          apply hc
          rw [iv_len]
          simp only [Bool.not_eq_true', decide_eq_false_iff_not]
          intro q
          injection q with q
          omega
      have e : coloursI part = placesI (codes "0123456789abcdef") part := by
        unfold coloursI
        rw [if_pos hc]
        rfl
      exact ⟨_, rfl, _, ap, part, rfl, by decide, hP, hl, fun z H' s1 => k0 (e.trans z) H' s1, fun l z H' p hN => k1 l (e.trans z) H' p hN⟩
end
end HD
end
section
set_option Elab.async false
set_option linter.all false
set_option maxRecDepth 100000
set_option maxHeartbeats 2000000
namespace HD
open PySem PySem.Spec PyProof.Rows L2
open PySem.W (Codec)
abbrev sLine : Stmt := top 30
abbrev sSide : Stmt := top 31
abbrev sRow : Stmt := top 32
/-- a def of the text under its name -/
def Def (K : PySem.W.Frag) (mg : Str → Option Value) (x : Str) (st : Stmt) (ps : List Str) : Prop := ∃ f fd, Fun K x x st f fd ∧ mg x = some (.ref f) ∧ PySem.W.keepIn K (.ref f) = true ∧ L2.Binds K fd ps []
/-- .. that keeps a promise -/
def Dn (P : Program) (w : World) (K : PySem.W.Frag) (mg : Str → Option Value) (base : Heap) (CX : CXT) (k : Nat) (x : Str) (ps : List Str) (sp : Sp) : Prop :=
  ∃ f fd, FnOk P w K mg base CX k f fd ps sp ∧ mg x = some (.ref f) ∧ PySem.W.keepIn K (.ref f) = true ∧ L2.Binds K fd ps []
theorem Def.dn {P : Program} {w : World} {K : PySem.W.Frag} {mg : Str → Option Value} {base : Heap} {CX : CXT} {k : Nat} {x : Str} {st : Stmt} {ps : List Str} {sp : Sp} (D : Def K mg x st ps) (h : ∀ f fd, Fun K x x st f fd → FnOk P w K mg base CX k f fd ps sp) : Dn P w K mg base CX k x ps sp :=
  let ⟨f, fd, F, m, kp, b⟩ := D
  ⟨f, fd, h f fd F, m, kp, b⟩
/-- a constant of the text -/
def Cn (mg : Str → Option Value) (x : Str) (v : V) : Prop := ∃ u, mg x = some u ∧ RelV v u
/-- a tuple of the text -/
def Tn (K : PySem.W.Frag) (mg : Str → Option Value) (x : Str) (xs : List V) : Prop := ∃ a, mg x = some (.ref a) ∧ ∀ H, SqT K H a xs
/-! ### read_row -/
def rowI (line : List Int) : Option (List Int) := if line.length = 4 then placesI JM.seens line else none
/-- a list, or None -/
def LstAt (H H' : Hp) : Option (List Int) → V → Prop
  | none, v => v = .non
  | some l, v => ∃ c, v = .ref c ∧ H c = none ∧ H' c = some (.lst (iv l))
def spRow (K : PySem.W.Frag) : Sp := fun vs H Q _ => ∃ (ap : Addr) (line : List Int), vs = [.ref ap] ∧ SqL K H ap (iv line) ∧ line.length ≤ 100000 ∧ ∀ H' v, Same H H' → LstAt H H' (rowI line) v → Q v H'
section
variable {P : Program} {w : World} {K : PySem.W.Frag} {mg : Str → Option Value} {base : Heap}
theorem scRow : FnScope ["line"] ["line"] (defScope sRow) := ⟨rfl, rfl, rfl, by decide +kernel, rfl, by decide +kernel, by decide +kernel⟩
theorem ok_row {f : Addr} {fd : FuncData} (F : Fun K "read_row" "read_row" sRow f fd) (tL : mg "len" = none) (cR : Cn mg "ROW" (.int 4)) (cS : Cn mg "SEEN_SIGNS" (.str "0123456789abcdef?"))
    (dP : Dn P w K mg base CX0 2 "places_in" ["signs", "part"] (spPlaces K)) : FnOk P w K mg base CX0 3 f fd ["line"] (spRow K) := by
  obtain ⟨uR, mR, rR⟩ := cR
  obtain ⟨uC, mC, rC⟩ := cS
  obtain ⟨fP, fdP, GP, mP, kP, bP⟩ := dP
  refine F.ok scRow (fun vs H Q E h => ?_) (fun cdv A outer s H vs Q E hr h => ?_)
  · obtain ⟨ap, part, rfl, _⟩ := h
    rfl
  · obtain ⟨ap, part, rfl, hP, hl, k⟩ := h
    refine ⟨_, pss_cons (ps_if (pt_cmpR op_ne (pe_callB call_len_seq (by rfl) tL PySem.boot_len (pa_cons (pv 0) pa_nil)) (pe_glob (by rfl) mR rR) (nomark _)) (pss_one (ps_ret pe_non)) pss_nil)
      (pss_one (ps_ret (pe_call GP hr rfl mP kP bP .nil pass0 (pa_cons (pe_glob (by rfl) mC rC) (pa_cons (pv 0) pa_nil))))), ?_⟩
    refine ⟨_, rfl, ap, _, rfl, .inl hP, rfl, _, rfl, ite2 (fun hc => ?_) (fun hc => ?_)⟩
    · have hc : ¬ part.length = 4 := by
        intro z
        rw [iv_len, z] at hc
        exact absurd hc (by decide)
      refine k H .non (Same.refl H) ?_
      unfold rowI
      rw [if_neg hc]
      rfl
    · have hc : part.length = 4 := by
        by_cases z : part.length = 4
        · exact z
        · exfalso
          apply hc
          rw [iv_len]
          simp only [Bool.not_eq_true', decide_eq_false_iff_not]
          intro q
          injection q with q
          omega
      have e : rowI part = placesI (codes "0123456789abcdef?") part := by
        unfold rowI
        rw [if_pos hc]
        rfl
      exact ⟨_, rfl, _, ap, part, rfl, by decide, hP, hl, fun z H' s1 => k H' _ s1 (by rw [e, z]; rfl), fun l z H' p hN => k H' _ hN.1 (by rw [e, z]; exact ⟨p, rfl, hN.2.1, hN.2.2⟩)⟩
/-! ### read_side -/
def sideI (line : List Int) : Option (Nat × List Int) := match JM.cutI 32 line with
  | [a, b, c] => if a = JM.wSeen then (match amongI JM.sides3 b, coloursI c with
    | some s, some l => some (s, l)
    | _, _ => none) else none
  | _ => none
def SideAt (H H' : Hp) : Option (Nat × List Int) → V → Prop
  | none, v => v = .non
  | some (s, l), v => ∃ t c, v = .ref t ∧ H t = none ∧ H c = none ∧ H' t = some (.tup [.int (s : Nat), .ref c]) ∧ H' c = some (.lst (iv l))
def spSide (K : PySem.W.Frag) : Sp := fun vs H Q _ => ∃ (ap : Addr) (line : List Int), vs = [.ref ap] ∧ SqL K H ap (iv line) ∧ line.length ≤ 100000 ∧ ∀ H' v, Same H H' → SideAt H H' (sideI line) v → Q v H'
theorem scSide : FnScope ["line", "words", "side", "classes"] ["line"] (defScope sSide) := ⟨rfl, rfl, rfl, by decide +kernel, rfl, by decide +kernel, by decide +kernel⟩
def sideStrs : List Str := ["front", "behind", "unknown"]
theorem ok_side {f : Addr} {fd : FuncData} (F : Fun K "read_side" "read_side" sSide f fd) (tL : mg "len" = none) (cB : Cn mg "BLANK" (.int 32)) (cS : Tn K mg "SIDES" (sideStrs.map V.str))
    (dC : Dn P w K mg base CX0 1 "cut" ["text", "mark"] (spCut K)) (dS : Dn P w K mg base CX0 1 "spelled" ["written"] spSpelled) (dA : Dn P w K mg base CX0 2 "place_among" ["words", "part"] (spAmong K)) (dR : Dn P w K mg base CX0 3 "read_colours" ["part"] (spColours K)) :
    FnOk P w K mg base CX0 4 f fd ["line"] (spSide K) := by
  obtain ⟨uB, mB, rB⟩ := cB
  obtain ⟨aS, mS, hS⟩ := cS
  obtain ⟨fC, fdC, GC, mC, kC, bC⟩ := dC
  obtain ⟨fS, fdS, GS, mSp, kS, bS⟩ := dS
  obtain ⟨fA, fdA, GA, mA, kA, bA⟩ := dA
  obtain ⟨fR, fdR, GR, mR, kR, bR⟩ := dR
  refine F.ok scSide (fun vs H Q E h => ?_) (fun cdv A outer s H vs Q E hr h => ?_)
  · obtain ⟨ap, part, rfl, _⟩ := h
    rfl
  · obtain ⟨ap, line, rfl, hP, hl, k⟩ := h
    have hr1 : Room 1 _ := hr.mono (by decide)
    have hr2 : Room 2 _ := hr.mono (by decide)
    refine ⟨_, pss_cons (ps_set (i := 1) scSide.nd rfl (Or.inl rfl) (pe_call GC hr1 rfl mC kC bC .nil pass0 (pa_cons (pv 0) (pa_cons (pe_glob (by rfl) mB rB) pa_nil))))
      (pss_cons (ps_if (PW.pt (pw_or (pt_cmpR op_ne (pe_callB call_len_seq (by rfl) tL PySem.boot_len (pa_cons (pv 1) pa_nil)) pe_int (nomark _))
          (pw_or1 (pt_cmpR (op_neL hr.units) (pe_ix ix_list (pv 1) pe_int (fun _ _ => rfl)) (pe_call GS hr1 rfl mSp kS bS .nil pass0 (pa_cons pe_str pa_nil)) (nomark _))))) (pss_one (ps_ret pe_non)) pss_nil)
      (pss_cons (ps_set (i := 2) scSide.nd rfl (Or.inl rfl) (pe_call GA hr2 rfl mA kA bA .nil pass0 (pa_cons (pe_glob (v := .ref aS) (by rfl) mS rfl) (pa_cons (pe_ix ix_list (pv 1) pe_int (fun _ _ => rfl)) pa_nil))))
      (pss_cons (ps_set (i := 3) scSide.nd rfl (Or.inl rfl) (pe_call GR hr rfl mR kR bR .nil pass0 (pa_cons (pe_ix ix_list (pv 1) pe_int (fun _ _ => rfl)) pa_nil)))
      (pss_cons (ps_if (PW.pt (pw_or (pt_cmp (pc_isN (pv 2))) (pw_or1 (pt_cmp (pc_isN (pv 3)))))) (pss_one (ps_ret pe_non)) pss_nil)
      (pss_one (ps_ret (pe_tup (pa_cons (pv 2) (pa_cons (pv 3) pa_nil))))))))), ?_⟩
    refine ⟨_, rfl, ap, 32, line, rfl, hP, hl, fun H1 p qs hN hp nd np hf => ?_⟩
    have hlen : ((qs.map V.ref).length : Int) = ((JM.cutI 32 line).length : Nat) := by rw [List.length_map, hp.len]
    have s1 := hN.1
    refine ⟨_, rfl, p, _, rfl, .inl (SqL.of hN.2.2), rfl, _, rfl, ite2 (fun hc => ?_) (fun hc => ?_)⟩
    · refine k H1 .non s1 ?_
      have : sideI line = none := by
        unfold sideI
        split
        · rename_i a b c e
          rw [hlen, e] at hc
          exact absurd hc (by simp)
        · rfl
      rw [this]
      rfl
    · have h3 : (JM.cutI 32 line).length = 3 := by
        by_cases z : (JM.cutI 32 line).length = 3
        · exact z
        · exfalso
          apply hc
          rw [hlen]
          simp only [Bool.not_eq_true', decide_eq_false_iff_not]
          intro q
          injection q with q
          omega
      obtain ⟨a, b, c, e3⟩ : ∃ a b c, JM.cutI 32 line = [a, b, c] := by
        match JM.cutI 32 line, h3 with
        | [a, b, c], _ => exact ⟨a, b, c, rfl⟩
      rw [e3] at hp
      have hb8 : ∀ w ∈ [a, b, c], w.length ≤ 100000 := fun w hw => Nat.le_trans (cut_part 32 line w (by rw [e3]; exact hw)) hl
      obtain ⟨qa, qb, qc, rfl⟩ : ∃ x y z, qs = [x, y, z] := by
        have := hp.len
        match qs, this with
        | [x, y, z], _ => exact ⟨x, y, z, rfl⟩
      cases hp with
      | cons ha hp =>
        cases hp with
        | cons hb hp =>
          cases hp with
          | cons hcc hp =>
            refine ⟨_, rfl, p, _, 0, V.ref qa, rfl, rfl, SqL.of hN.2.2, rfl, "seen", rfl, by decide, fun H2 p2 hN2 => ?_⟩
            have s2 := s1.trans hN2.1
            refine ⟨qa, p2, a, codes "seen", rfl, rfl, SqL.of (hN2.1 _ _ ha), SqL.of hN2.2.2, _, rfl, ite2 (fun hd => ?_) (fun hd => ?_)⟩
            · refine k H2 .non s2 ?_
              have : sideI line = none := by
                unfold sideI
                rw [e3]
                show (if a = JM.wSeen then _ else none) = none
                have hd : ¬ a = codes "seen" := by simpa using hd
                rw [if_neg (fun z => hd (z.trans rfl))]
              rw [this]
              rfl
            · have hd : a = codes "seen" := by simpa using hd
              refine ⟨_, rfl, p, _, 1, V.ref qb, rfl, rfl, SqL.of (hN2.1 _ _ hN.2.2), rfl, aS, qb, sideStrs, b, rfl, hS H2, by decide, SqL.of (hN2.1 _ _ hb), fun H3 s3 => ?_⟩
              refine ⟨_, rfl, p, _, 2, V.ref qc, rfl, rfl, SqL.of (s3 _ _ (hN2.1 _ _ hN.2.2)), rfl, qc, c, rfl, SqL.of (s3 _ _ (hN2.1 _ _ hcc)), hb8 c (by simp), fun z H4 s4 => ?_, fun l z H4 p4 hN4 => ?_⟩
              · -- no colours
                have en : sideI line = none := by
                  unfold sideI
                  rw [e3]
                  show (if a = JM.wSeen then _ else none) = none
                  rw [if_pos (show a = JM.wSeen from hd), z]
                  cases amongI JM.sides3 b <;> rfl
                refine ⟨_, rfl, _, rfl, ite2 (fun _ => ?_) (fun _ => ⟨_, rfl, _, rfl, iteT ?_⟩)⟩
                · exact k H4 .non ((s2.trans s3).trans s4) (by rw [en]; rfl)
                · exact k H4 .non ((s2.trans s3).trans s4) (by rw [en]; rfl)
              · have s4 := hN4.1
                refine ⟨_, rfl, _, rfl, ite2 (fun hn => ?_) (fun hn => ⟨_, rfl, _, rfl, iteF ?_⟩)⟩
                · have hn : oI (amongI (sideStrs.map codes) b) = V.non := by simpa using hn
                  have en : sideI line = none := by
                    unfold sideI
                    rw [e3]
                    show (if a = JM.wSeen then _ else none) = none
                    rw [if_pos (show a = JM.wSeen from hd), show JM.sides3 = sideStrs.map codes from rfl]
                    cases e : amongI (sideStrs.map codes) b with
                    | none => rfl
                    | some i => rw [e] at hn; cases hn
                  exact k H4 .non ((s2.trans s3).trans s4) (by rw [en]; rfl)
                · have hn : ¬ oI (amongI (sideStrs.map codes) b) = V.non := by simpa using hn
                  obtain ⟨i, ei⟩ : ∃ i, amongI (sideStrs.map codes) b = some i := by
                    cases e : amongI (sideStrs.map codes) b with
                    | none => rw [e] at hn; exact absurd rfl hn
                    | some i => exact ⟨i, rfl⟩
                  have en : sideI line = some (i, l) := by
                    unfold sideI
                    rw [e3]
                    show (if a = JM.wSeen then _ else none) = _
                    rw [if_pos (show a = JM.wSeen from hd), z, show JM.sides3 = sideStrs.map codes from rfl, ei]
                  refine ⟨_, rfl, _, rfl, (by show 2 ≤ sizeLine; decide), fun t ht => ?_⟩
                  have s5 := (s2.trans s3).trans s4
                  refine k _ (.ref t) (same_upd2 s5 (s5.free ht)) ?_
                  rw [en]
                  refine ⟨t, p4, rfl, s5.free ht, (s2.trans s3).free hN4.2.1, ?_, ?_⟩
                  · rw [upd_same, ei]
                    rfl
                  · rw [upd_ne (ne_of_none hN4.2.2 ht)]
                    exact hN4.2.2
end
end HD
end
section
set_option Elab.async false
set_option linter.all false
set_option maxRecDepth 100000
set_option maxHeartbeats 2000000
namespace HD
open PySem PySem.Spec PyProof.Rows L2
open PySem.W (Codec)
/-! ### read_line -/
inductive Told where
  | side (s : Nat) (l : List Int)
  | hoist (k : Nat)
  | shape (k : Nat)
  | row (l : List Int)
def Told.sort : Told → Nat
  | .side _ _ => 0
  | .hoist _ => 1
  | .shape _ => 2
  | .row _ => 3
def lineI (line : List Int) : Option Told := match sideI line with
  | some x => some (.side x.1 x.2)
  | none => match amongI JM.hoists4 line with
    | some k => some (.hoist k)
    | none => match amongI JM.shapes4 line with
      | some k => some (.shape k)
      | none => (rowI line).map .row
/-- what is told lies at v -/
def ToldAt (H H' : Hp) : Told → V → Prop
  | .side s l, v => ∃ t c, v = .ref t ∧ H c = none ∧ H' t = some (.tup [.int (s : Nat), .ref c]) ∧ H' c = some (.lst (iv l))
  | .hoist k, v => v = .int (k : Nat)
  | .shape k, v => v = .int (k : Nat)
  | .row l, v => ∃ c, v = .ref c ∧ H c = none ∧ H' c = some (.lst (iv l))
def LineAt (H H' : Hp) : Option Told → V → Prop
  | none, v => v = .non
  | some t, v => ∃ q y, v = .ref q ∧ H q = none ∧ H' q = some (.tup [.int (t.sort : Nat), y]) ∧ ToldAt H H' t y
def spLine (K : PySem.W.Frag) : Sp := fun vs H Q _ => ∃ (ap : Addr) (line : List Int), vs = [.ref ap] ∧ SqL K H ap (iv line) ∧ line.length ≤ 100000 ∧ ∀ H' v, Same H H' → LineAt H H' (lineI line) v → Q v H'
def hoistStrs : List Str := ["hoist", "hoist above", "hoist below", "hoist above below"]
def shapeStrs : List Str := ["square", "tails", "long", "shape?"]
theorem ToldAt.same {H H1 H2 : Hp} {t : Told} {v : V} (h : ToldAt H H1 t v) (s : Same H1 H2) : ToldAt H H2 t v := by
  cases t with
  | side a l => obtain ⟨t, c, h1, h2, h3, h4⟩ := h; exact ⟨t, c, h1, h2, s _ _ h3, s _ _ h4⟩
  | hoist k => exact h
  | shape k => exact h
  | row l => obtain ⟨c, h1, h2, h3⟩ := h; exact ⟨c, h1, h2, s _ _ h3⟩
/-- the first of the four that is told -/
theorem line_first {H H' : Hp} {line : List Int} {v0 v3 : V} (h0 : SideAt H H' (sideI line) v0) (h3 : LstAt H H' (rowI line) v3) {i : Nat} {x : V}
    (hx : [v0, oI (amongI JM.hoists4 line), oI (amongI JM.shapes4 line), v3][i]? = some x) (hn : x ≠ .non) (hb : ∀ j y, j < i → [v0, oI (amongI JM.hoists4 line), oI (amongI JM.shapes4 line), v3][j]? = some y → y = .non) :
    ∃ t, lineI line = some t ∧ t.sort = i ∧ ToldAt H H' t x := by
  have e0 : v0 = .non → sideI line = none := fun z => by
    cases e : sideI line with
    | none => rfl
    | some p =>
      rw [e] at h0
      obtain ⟨t, c, h1, _⟩ := h0
      rw [z] at h1
      cases h1
  have eo : ∀ o : Option Nat, oI o = .non → o = none := fun o z => by
    cases o with
    | none => rfl
    | some k => cases z
  match i, hx with
  | 0, hx =>
    have ex : v0 = x := Option.some.inj hx
    subst ex
    cases e : sideI line with
    | none => rw [e] at h0; exact absurd h0 hn
    | some p =>
      rw [e] at h0
      obtain ⟨t, c, h1, h2, h3, h4, h5⟩ := h0
      refine ⟨.side p.1 p.2, by unfold lineI; rw [e], rfl, t, c, h1, h3, h4, h5⟩
  | 1, hx =>
    have ex : oI (amongI JM.hoists4 line) = x := Option.some.inj hx
    have z0 := e0 (hb 0 v0 (by omega) rfl)
    cases e : amongI JM.hoists4 line with
    | none => rw [e] at ex; exact absurd ex.symm hn
    | some k =>
      rw [e] at ex
      exact ⟨.hoist k, by unfold lineI; rw [z0, e], rfl, ex.symm⟩
  | 2, hx =>
    have ex : oI (amongI JM.shapes4 line) = x := Option.some.inj hx
    have z0 := e0 (hb 0 v0 (by omega) rfl)
    have z1 := eo _ (hb 1 _ (by omega) rfl)
    cases e : amongI JM.shapes4 line with
    | none => rw [e] at ex; exact absurd ex.symm hn
    | some k =>
      rw [e] at ex
      exact ⟨.shape k, by unfold lineI; rw [z0, z1, e], rfl, ex.symm⟩
  | 3, hx =>
    have ex : v3 = x := Option.some.inj hx
    subst ex
    have z0 := e0 (hb 0 v0 (by omega) rfl)
    have z1 := eo _ (hb 1 _ (by omega) rfl)
    have z2 := eo _ (hb 2 _ (by omega) rfl)
    cases e : rowI line with
    | none => rw [e] at h3; exact absurd h3 hn
    | some l =>
      rw [e] at h3
      obtain ⟨c, h1, h2, h4⟩ := h3
      exact ⟨.row l, by unfold lineI; rw [z0, z1, z2, e]; rfl, rfl, c, h1, h2, h4⟩
  | i + 4, hx => simp at hx
theorem line_none {H H' : Hp} {line : List Int} {v0 v3 : V} (h0 : SideAt H H' (sideI line) v0) (h3 : LstAt H H' (rowI line) v3)
    (hb : ∀ j y, j < 4 → [v0, oI (amongI JM.hoists4 line), oI (amongI JM.shapes4 line), v3][j]? = some y → y = .non) : lineI line = none := by
  have z0 : v0 = .non := hb 0 v0 (by omega) rfl
  have z1 : oI (amongI JM.hoists4 line) = .non := hb 1 _ (by omega) rfl
  have z2 : oI (amongI JM.shapes4 line) = .non := hb 2 _ (by omega) rfl
  have z3 : v3 = .non := hb 3 v3 (by omega) rfl
  unfold lineI
  cases e : sideI line with
  | some p =>
    rw [e] at h0
    obtain ⟨t, c, h1, _⟩ := h0
    rw [z0] at h1
    cases h1
  | none =>
    cases e1 : amongI JM.hoists4 line with
    | some k => rw [e1] at z1; cases z1
    | none =>
      cases e2 : amongI JM.shapes4 line with
      | some k => rw [e2] at z2; cases z2
      | none =>
        cases e3 : rowI line with
        | some l =>
          rw [e3] at h3
          obtain ⟨c, h1, _⟩ := h3
          rw [z3] at h1
          cases h1
        | none => rfl
theorem SideAt.same {H0 H H1 H2 : Hp} {o : Option (Nat × List Int)} {v : V} (h : SideAt H H1 o v) (s0 : Same H0 H) (s : Same H1 H2) : SideAt H0 H2 o v := by
  cases o with
  | none => exact h
  | some p => obtain ⟨t, c, h1, h2, h3, h4, h5⟩ := h; exact ⟨t, c, h1, s0.free h2, s0.free h3, s _ _ h4, s _ _ h5⟩
theorem LstAt.same {H0 H H1 H2 : Hp} {o : Option (List Int)} {v : V} (h : LstAt H H1 o v) (s0 : Same H0 H) (s : Same H1 H2) : LstAt H0 H2 o v := by
  cases o with
  | none => exact h
  | some p => obtain ⟨c, h1, h2, h3⟩ := h; exact ⟨c, h1, s0.free h2, s _ _ h3⟩
section
variable {P : Program} {w : World} {K : PySem.W.Frag} {mg : Str → Option Value} {base : Heap}
theorem scLine : FnScope ["line", "readings", "sort", "told"] ["line"] (defScope sLine) := ⟨rfl, rfl, rfl, by decide +kernel, rfl, by decide +kernel, by decide +kernel⟩
theorem ok_line {f : Addr} {fd : FuncData} (F : Fun K "read_line" "read_line" sLine f fd) (tE : mg "enumerate" = none) (cH : Tn K mg "HOIST_LINES" (hoistStrs.map V.str)) (cS : Tn K mg "SEEN_SHAPES" (shapeStrs.map V.str))
    (dS : Dn P w K mg base CX0 4 "read_side" ["line"] (spSide K)) (dA : Dn P w K mg base CX0 2 "place_among" ["words", "part"] (spAmong K)) (dR : Dn P w K mg base CX0 3 "read_row" ["line"] (spRow K)) :
    FnOk P w K mg base CX0 5 f fd ["line"] (spLine K) := by
  obtain ⟨aH, mH, hH⟩ := cH
  obtain ⟨aS, mS, hS⟩ := cS
  obtain ⟨fS, fdS, GS, mSd, kS, bS⟩ := dS
  obtain ⟨fA, fdA, GA, mA, kA, bA⟩ := dA
  obtain ⟨fR, fdR, GR, mR, kR, bR⟩ := dR
  refine F.ok scLine (fun vs H Q E h => ?_) (fun cdv A outer s H vs Q E hr h => ?_)
  · obtain ⟨ap, part, rfl, _⟩ := h
    rfl
  · obtain ⟨ap, line, rfl, hP, hl, k⟩ := h
    have hr2 : Room 2 _ := hr.mono (by decide)
    have hr3 : Room 3 _ := hr.mono (by decide)
    refine ⟨_, pss_cons (ps_set (i := 1) scLine.nd rfl (Or.inl rfl) (pe_tup (pa_cons (pe_call GS hr rfl mSd kS bS .nil pass0 (pa_cons (pv 0) pa_nil))
        (pa_cons (pe_call GA hr2 rfl mA kA bA .nil pass0 (pa_cons (pe_glob (v := .ref aH) (by rfl) mH rfl) (pa_cons (pv 0) pa_nil)))
        (pa_cons (pe_call GA hr2 rfl mA kA bA .nil pass0 (pa_cons (pe_glob (v := .ref aS) (by rfl) mS rfl) (pa_cons (pv 0) pa_nil)))
        (pa_cons (pe_call GR hr3 rfl mR kR bR .nil pass0 (pa_cons (pv 0) pa_nil)) pa_nil))))))
      (pss_cons (ps_for PassesOwn.never rfl (pi_enumT (by rfl) tE (pa_cons (pv 1) pa_nil)) (pg_tup rfl (pgs_cons (pg_name (i := 2) scLine.nd rfl (Or.inl rfl)) (pgs_cons (pg_name (i := 3) scLine.nd rfl (Or.inl rfl)) pgs_nil)))
        (pss_one (ps_if (pt_cmp (pc_notN (pv 3))) (pss_one (ps_ret (pe_tup (pa_cons (pv 2) (pa_cons (pv 3) pa_nil))))) pss_nil)))
      (pss_one (ps_ret pe_non))), ?_⟩
    refine ⟨_, rfl, ap, line, rfl, hP, hl, fun H1 v0 s1 h0 => ?_⟩
    refine ⟨_, rfl, aH, ap, hoistStrs, line, rfl, hH H1, by decide, s1.seq hP, fun H2 s2 => ?_⟩
    have s12 := s1.trans s2
    refine ⟨_, rfl, aS, ap, shapeStrs, line, rfl, hS H2, by decide, s12.seq hP, fun H3 s3 => ?_⟩
    have s13 := s12.trans s3
    refine ⟨_, rfl, ap, line, rfl, s13.seq hP, hl, fun H4 v3 s4 h3 => ?_⟩
    have s14 := s13.trans s4
    refine ⟨(by show 4 ≤ sizeLine; decide), fun tt htt => ?_⟩
    have s5 := same_upd2 (o := .tup [v0, oI (amongI JM.hoists4 line), oI (amongI JM.shapes4 line), v3]) s14 (s14.free htt)
    have sl : ∀ {H' : Hp}, Same (upd H4 tt (.tup [v0, oI (amongI JM.hoists4 line), oI (amongI JM.shapes4 line), v3])) H' → Same H4 H' := fun z => (same_upd htt).trans z
    refine ⟨_, rfl, tt, [v0, oI (amongI JM.hoists4 line), oI (amongI JM.shapes4 line), v3], rfl, SqT.of upd_same, for_enumT (K := K) (a := tt) (xs := [v0, oI (amongI JM.hoists4 line), oI (amongI JM.shapes4 line), v3])
      (fun i σ H' => ∃ u2 u3 : Option V, σ = [some (.ref ap), some (.ref tt), u2, u3] ∧ Same (upd H4 tt (.tup [v0, oI (amongI JM.hoists4 line), oI (amongI JM.shapes4 line), v3])) H' ∧ ∀ j y, j < i → [v0, oI (amongI JM.hoists4 line), oI (amongI JM.shapes4 line), v3][j]? = some y → y = .non)
      ⟨none, none, rfl, Same.refl _, fun j y hj _ => absurd hj (by omega)⟩ (fun i σ H' _ ⟨_, _, _, s6, _⟩ => Same.tup s6 (SqT.of upd_same)) ?_ ?_⟩
    · rintro i x T σ H' hi ⟨u2, u3, rfl, s6, hb⟩ hT
      have s7 := same_upd2 (o := .tup [.int (i : Nat), x]) s6 (s6.free hT)
      refine ⟨T, _, rfl, SqT.of upd_same, rfl, _, _, rfl, _, _, rfl, rfl, _, rfl, _, rfl, ite2 (fun hc => ?_) (fun hc => ?_)⟩
      · have hc : ¬ x = .non := by simpa using hc
        refine ⟨_, rfl, _, rfl, (by show 2 ≤ sizeLine; decide), fun q hq => ?_⟩
        have s8 := same_upd2 (o := .tup [.int (i : Nat), x]) s7 (s7.free hq)
        have s9 : Same H _ := s5.trans s8
        obtain ⟨t, et, es, ta⟩ := line_first (h0.same (Same.refl H) (((s2.trans s3).trans s4).trans (sl s8))) (h3.same s13 (sl s8)) hi hc hb
        refine k _ (.ref q) s9 ?_
        rw [et]
        refine ⟨q, x, rfl, (s5.trans s7).free hq, ?_, ta⟩
        rw [upd_same, es]
      · have hc : x = .non := by simpa using hc
        refine ⟨_, _, rfl, s7, fun j y hj hy => ?_⟩
        by_cases e : j = i
        · subst e
          rw [hi] at hy
          rw [← Option.some.inj hy]
          exact hc
        · exact hb j y (by omega) hy
    · rintro σ H' ⟨u2, u3, rfl, s6, hb⟩
      have en := line_none (h0.same (Same.refl H) (((s2.trans s3).trans s4).trans (sl s6))) (h3.same s13 (sl s6)) hb
      exact k H' .non (s5.trans s6) (by rw [en]; rfl)
end
end HD
end
section
set_option Elab.async false
set_option linter.all false
set_option maxRecDepth 100000
set_option maxHeartbeats 2000000
namespace HD
open PySem PySem.Spec PyProof.Rows L2
open PySem.W (Codec)
abbrev sNoPlateI : Stmt := inClass (top 25) 0
abbrev sSightingI : Stmt := inClass (top 26) 0
abbrev sGlimpseI : Stmt := inClass (top 27) 0
abbrev sPlateI : Stmt := inClass (top 28) 0
abbrev sMay : Stmt := top 33
abbrev sLacksF : Stmt := top 34
abbrev sLacksC : Stmt := top 35
abbrev sWhole : Stmt := top 36
abbrev sPut : Stmt := top 37
/-! ### a plate as it lies: content and addresses -/
structure SgA where
  a : Addr
  dx : Addr
  l : Addr
  shape : Nat
  cells : List Int
structure GlA where
  a : Addr
  dx : Addr
  l : Addr
  above : Bool
  below : Bool
  flags : List SgA
structure PlA where
  a : Addr
  dx : Addr
  cl : Addr
  gl : Addr
  side : Nat
  classes : List Int
  glimpses : List GlA
/-- the three classes -/
structure Cs where
  S : Addr
  G : Addr
  P : Addr
abbrev Nd := Addr × HO
def sgF (s : SgA) : List (Str × V) := [("shape", .int (s.shape : Nat)), ("cells", .ref s.l)]
def glF (g : GlA) : List (Str × V) := [("above", .bl g.above), ("below", .bl g.below), ("flags", .ref g.l)]
def plF (p : PlA) : List (Str × V) := [("side", .int (p.side : Nat)), ("classes", .ref p.cl), ("glimpses", .ref p.gl)]
def sgN (C : Cs) (s : SgA) : List Nd := [(s.a, .ins C.S s.dx (sgF s)), (s.l, .lst (iv s.cells))]
def glN (C : Cs) (g : GlA) : List Nd := (g.a, .ins C.G g.dx (glF g)) :: (g.l, .lst (g.flags.map fun s => V.ref s.a)) :: g.flags.flatMap (sgN C)
def plN (C : Cs) (p : PlA) : List Nd := (p.a, .ins C.P p.dx (plF p)) :: (p.cl, .lst (iv p.classes)) :: (p.gl, .lst (p.glimpses.map fun g => V.ref g.a)) :: p.glimpses.flatMap (glN C)
/-- it lies so -/
def Lies (H : Hp) (ns : List Nd) : Prop := ∀ x ∈ ns, H x.1 = some x.2
theorem Lies.same {H H' : Hp} {ns : List Nd} (h : Lies H ns) (s : Same H H') : Lies H' ns := fun x hx => s _ _ (h x hx)
/-! ### the content alone -/
structure GlM where
  above : Bool
  below : Bool
  flags : List (Nat × List Int)
structure PlM where
  side : Nat
  classes : List Int
  glimpses : List GlM
def SgA.m (s : SgA) : Nat × List Int := (s.shape, s.cells)
def GlA.m (g : GlA) : GlM := ⟨g.above, g.below, g.flags.map SgA.m⟩
def PlA.m (p : PlA) : PlM := ⟨p.side, p.classes, p.glimpses.map GlA.m⟩
def lacksFM (m : PlM) : Bool := match m.glimpses.getLast? with
  | some g => g.flags.isEmpty
  | none => false
def lacksCM (m : PlM) : Bool := match m.glimpses.getLast? with
  | some g => (match g.flags.getLast? with
    | some s => decide (s.2.length < 16)
    | none => false)
  | none => false
def wholeM (m : PlM) : Bool := !m.glimpses.isEmpty && (!lacksFM m && !lacksCM m)
def mayM (m : PlM) (k : Nat) : Bool :=
  if (m.classes.isEmpty || decide (k = 0)) = true then m.classes.isEmpty && decide (k = 0)
  else if (decide (k = 3) || lacksCM m) = true then decide (k = 3) && lacksCM m
  else if decide (k = 1) = true then decide (m.glimpses.length < 4) && !lacksFM m
  else match m.glimpses.getLast? with
    | some g => decide (g.flags.length < 8)
    | none => false
/-! ### reading it -/
section
variable {C : Cs} {H : Hp} {p : PlA}
theorem Lies.pl (h : Lies H (plN C p)) : H p.a = some (.ins C.P p.dx (plF p)) := h (p.a, _) (by unfold plN; simp)
theorem Lies.cl (h : Lies H (plN C p)) : H p.cl = some (.lst (iv p.classes)) := h (p.cl, _) (by unfold plN; simp)
theorem Lies.gl (h : Lies H (plN C p)) : H p.gl = some (.lst (p.glimpses.map fun g => V.ref g.a)) := h (p.gl, _) (by unfold plN; simp)
theorem Lies.sub (h : Lies H (plN C p)) {g : GlA} (hg : g ∈ p.glimpses) : Lies H (glN C g) := fun x hx => h x (by
  unfold plN
  exact List.mem_cons_of_mem _ (List.mem_cons_of_mem _ (List.mem_cons_of_mem _ (List.mem_flatMap.mpr ⟨g, hg, hx⟩))))
theorem Lies.ga {g : GlA} (h : Lies H (glN C g)) : H g.a = some (.ins C.G g.dx (glF g)) := h (g.a, _) (by unfold glN; simp)
theorem Lies.fl {g : GlA} (h : Lies H (glN C g)) : H g.l = some (.lst (g.flags.map fun s => V.ref s.a)) := h (g.l, _) (by unfold glN; simp)
theorem Lies.sub2 {g : GlA} (h : Lies H (glN C g)) {s : SgA} (hs : s ∈ g.flags) : Lies H (sgN C s) := fun x hx => h x (by
  unfold glN
  exact List.mem_cons_of_mem _ (List.mem_cons_of_mem _ (List.mem_flatMap.mpr ⟨s, hs, hx⟩)))
theorem Lies.sa {s : SgA} (h : Lies H (sgN C s)) : H s.a = some (.ins C.S s.dx (sgF s)) := h (s.a, _) (by unfold sgN; simp)
theorem Lies.sl {s : SgA} (h : Lies H (sgN C s)) : H s.l = some (.lst (iv s.cells)) := h (s.l, _) (by unfold sgN; simp)
end
theorem lk_eq {f : Str} {v : V} {r : List (Str × V)} : ((f, v) :: r).lookup f = some v := by
  rw [List.lookup_cons, beq_self_eq_true]
theorem lk_ne {f g : Str} {v : V} {r : List (Str × V)} (h : (f == g) = false) : ((g, v) :: r).lookup f = r.lookup f := by
  rw [List.lookup_cons, h]
theorem plF_classes (p : PlA) : (plF p).lookup ("classes" : Str) = some (.ref p.cl) := (lk_ne (by decide +kernel)).trans lk_eq
theorem plF_glimpses (p : PlA) : (plF p).lookup ("glimpses" : Str) = some (.ref p.gl) := (lk_ne (by decide +kernel)).trans ((lk_ne (by decide +kernel)).trans lk_eq)
theorem glF_flags (g : GlA) : (glF g).lookup ("flags" : Str) = some (.ref g.l) := (lk_ne (by decide +kernel)).trans ((lk_ne (by decide +kernel)).trans lk_eq)
theorem sgF_cells (s : SgA) : (sgF s).lookup ("cells" : Str) = some (.ref s.l) := (lk_ne (by decide +kernel)).trans lk_eq
/-- the three classes, in the text -/
structure CsT (K : PySem.W.Frag) (C : Cs) : Prop where
  cS : Cls K C.S
  cG : Cls K C.G
  cP : Cls K C.P
  nShape : NoAttr K C.S "shape"
  nCells : NoAttr K C.S "cells"
  nAbove : NoAttr K C.G "above"
  nBelow : NoAttr K C.G "below"
  nFlags : NoAttr K C.G "flags"
  nSide : NoAttr K C.P "side"
  nClasses : NoAttr K C.P "classes"
  nGlimpses : NoAttr K C.P "glimpses"
theorem last_cases {α : Type} (l : List α) : l = [] ∨ ∃ r x, l = r ++ [x] := by
  cases e : l.getLast? with
  | none => exact .inl (List.getLast?_eq_none_iff.mp e)
  | some x =>
    right
    obtain ⟨r, hr⟩ := List.getLast?_eq_some_iff.mp e
    exact ⟨r, x, hr⟩
/-! ### lacks_flags, lacks_cells, has_whole_hoists -/
def spBool (C : Cs) (b : PlM → Bool) : Sp := fun vs H Q _ => ∃ p : PlA, vs = [.ref p.a] ∧ Lies H (plN C p) ∧ ∀ H', Same H H' → Q (.bl (b p.m)) H'
theorem spBool.len {C : Cs} {b : PlM → Bool} : ∀ vs H Q E, spBool C b vs H Q E → vs.length = (["plate"] : List Str).length := fun vs H Q E h => by
  obtain ⟨p, rfl, _⟩ := h
  rfl
theorem lacksFM_nil {m : PlM} (h : m.glimpses = []) : lacksFM m = false := by unfold lacksFM; rw [h]; rfl
theorem lacksFM_snoc {p : PlA} {gs : List GlA} {g : GlA} (h : p.glimpses = gs ++ [g]) : lacksFM p.m = g.flags.isEmpty := by
  unfold lacksFM PlA.m
  dsimp only
  rw [h, List.map_append, List.map_cons, List.map_nil, List.getLast?_append, List.getLast?_singleton]
  show (g.flags.map SgA.m).isEmpty = _
  cases g.flags <;> rfl
theorem lacksCM_nil {m : PlM} (h : m.glimpses = []) : lacksCM m = false := by unfold lacksCM; rw [h]; rfl
theorem lacksCM_empty {p : PlA} {gs : List GlA} {g : GlA} (h : p.glimpses = gs ++ [g]) (hf : g.flags = []) : lacksCM p.m = false := by
  unfold lacksCM PlA.m
  dsimp only
  rw [h, List.map_append, List.map_cons, List.map_nil, List.getLast?_append, List.getLast?_singleton]
  show (match (g.flags.map SgA.m).getLast? with
    | some s => decide (s.2.length < 16)
    | none => false) = _
  rw [hf]
  rfl
theorem lacksCM_snoc {p : PlA} {gs : List GlA} {g : GlA} {ss : List SgA} {s : SgA} (h : p.glimpses = gs ++ [g]) (hf : g.flags = ss ++ [s]) : lacksCM p.m = decide (s.cells.length < 16) := by
  unfold lacksCM PlA.m
  dsimp only
  rw [h, List.map_append, List.map_cons, List.map_nil, List.getLast?_append, List.getLast?_singleton]
  show (match (g.flags.map SgA.m).getLast? with
    | some s => decide (s.2.length < 16)
    | none => false) = _
  rw [hf, List.map_append, List.map_cons, List.map_nil, List.getLast?_append, List.getLast?_singleton]
  rfl
section
variable {P : Program} {w : World} {K : PySem.W.Frag} {mg : Str → Option Value} {base : Heap} {C : Cs}
theorem scLacksF : FnScope ["plate"] ["plate"] (defScope sLacksF) := ⟨rfl, rfl, rfl, by decide +kernel, rfl, by decide +kernel, by decide +kernel⟩
theorem ok_lacksF {f : Addr} {fd : FuncData} (F : Fun K "lacks_flags" "lacks_flags" sLacksF f fd) (T : CsT K C) : FnOk P w K mg base CX0 1 f fd ["plate"] (spBool C lacksFM) := by
  refine F.ok scLacksF spBool.len (fun cdv A outer s H vs Q E hr h => ?_)
  obtain ⟨p, rfl, L, k⟩ := h
  refine ⟨_, pss_one (ps_ret (pe_and (pe_cmpR (op_ne0 hr.units) (pe_fld (pv 0) rfl) (pe_lst pa_nil) (nomark _))
    (pe_one (pe_cmpR (op_eq0 hr.units) (pe_fld (pe_ix ix_list (pe_fld (pv 0) rfl) (pe_un un_neg pe_int) (fun _ _ => rfl)) rfl) (pe_lst pa_nil) (nomark _))))), ?_⟩
  refine ⟨_, rfl, p.a, C.P, p.dx, _, _, rfl, L.pl, T.cP, T.nGlimpses, plF_glimpses p, Nat.zero_le _, fun e1 n1 => ?_⟩
  have s1 : Same H (upd H e1 (.lst [])) := same_upd n1
  refine ⟨p.gl, e1, _, rfl, rfl, SqL.of (s1 _ _ L.gl), SqL.of upd_same, _, rfl, ?_⟩
  rcases last_cases p.glimpses with e | ⟨gs, g, e⟩
  · rw [e]
    refine iteF ?_
    have q := k _ s1
    rw [lacksFM_nil (by unfold PlA.m; rw [e]; rfl)] at q
    exact q
  · have hg : g ∈ p.glimpses := by rw [e]; simp
    have L1 := L.same s1
    have ne : (!(p.glimpses.map fun g => V.ref g.a).isEmpty) = true := by rw [e, List.map_append]; simp
    rw [ne]
    refine iteT ⟨_, rfl, p.a, C.P, p.dx, _, _, rfl, L1.pl, T.cP, T.nGlimpses, plF_glimpses p, _, rfl, p.gl, _, _, V.ref g.a, rfl, rfl, SqL.of L1.gl, ?_, g.a, C.G, g.dx, _, _, rfl, (L1.sub hg).ga, T.cG, T.nFlags, glF_flags g, Nat.zero_le _, fun e2 n2 => ?_⟩
    · rw [e, List.map_append]
      exact atI_last _ _
    · have s2 := same_upd2 (o := .lst []) s1 (s1.free n2)
      have L2' := L.same s2
      refine ⟨g.l, e2, _, rfl, rfl, SqL.of (L2'.sub hg).fl, SqL.of upd_same, ?_⟩
      have q := k _ s2
      rw [lacksFM_snoc e] at q
      rw [show (g.flags.map fun s => V.ref s.a).isEmpty = g.flags.isEmpty by cases g.flags <;> rfl]
      exact q
theorem scLacksC : FnScope ["plate"] ["plate"] (defScope sLacksC) := ⟨rfl, rfl, rfl, by decide +kernel, rfl, by decide +kernel, by decide +kernel⟩
theorem ok_lacksC {f : Addr} {fd : FuncData} (F : Fun K "lacks_cells" "lacks_cells" sLacksC f fd) (T : CsT K C) (tL : mg "len" = none) (cC : Cn mg "CELLS" (.int 16)) (dF : Dn P w K mg base CX0 1 "lacks_flags" ["plate"] (spBool C lacksFM)) :
    FnOk P w K mg base CX0 2 f fd ["plate"] (spBool C lacksCM) := by
  obtain ⟨uC, mC, rC⟩ := cC
  obtain ⟨fF, fdF, GF, mF, kF, bF⟩ := dF
  refine F.ok scLacksC spBool.len (fun cdv A outer s H vs Q E hr h => ?_)
  obtain ⟨p, rfl, L, k⟩ := h
  refine ⟨_, pss_cons (ps_if (PW.pt (pw_or (pt_cmpR (op_eq0 hr.units) (pe_fld (pv 0) rfl) (pe_lst pa_nil) (nomark _)) (pw_or1 (pt_val (pe_call GF hr rfl mF kF bF .nil pass0 (pa_cons (pv 0) pa_nil)))))) (pss_one (ps_ret pe_bl)) pss_nil)
    (pss_one (ps_ret (pe_cmpR op_lt (pe_callB call_len_seq (by rfl) tL PySem.boot_len (pa_cons (pe_fld (pe_ix ix_list (pe_fld (pe_ix ix_list (pe_fld (pv 0) rfl) (pe_un un_neg pe_int) (fun _ _ => rfl)) rfl) (pe_un un_neg pe_int) (fun _ _ => rfl)) rfl) pa_nil)) (pe_glob (by rfl) mC rC) (nomark _)))), ?_⟩
  refine ⟨_, rfl, p.a, C.P, p.dx, _, _, rfl, L.pl, T.cP, T.nGlimpses, plF_glimpses p, Nat.zero_le _, fun e1 n1 => ?_⟩
  have s1 : Same H (upd H e1 (.lst [])) := same_upd n1
  have L1 := L.same s1
  refine ⟨p.gl, e1, _, rfl, rfl, SqL.of L1.gl, SqL.of upd_same, _, rfl, ?_⟩
  rcases last_cases p.glimpses with e | ⟨gs, g, e⟩
  · rw [e]
    refine iteT ?_
    have q := k _ s1
    rw [lacksCM_nil (by unfold PlA.m; rw [e]; rfl)] at q
    exact q
  · have hg : g ∈ p.glimpses := by rw [e]; simp
    have ne : (p.glimpses.map fun g => V.ref g.a).isEmpty = false := by rw [e, List.map_append]; simp
    rw [ne]
    refine iteF ⟨_, rfl, p, rfl, L1, fun H2 s2 => ⟨_, rfl, ?_⟩⟩
    have s3 := s1.trans s2
    have L3 := L.same s3
    rw [lacksFM_snoc e]
    rcases last_cases g.flags with e2 | ⟨ss, sg, e2⟩
    · rw [e2]
      refine iteT ?_
      have q := k _ s3
      rw [lacksCM_empty e e2] at q
      exact q
    · have hs : sg ∈ g.flags := by rw [e2]; simp
      have ne2 : g.flags.isEmpty = false := by rw [e2]; simp
      rw [ne2]
      refine iteF ⟨_, rfl, p.a, C.P, p.dx, _, _, rfl, L3.pl, T.cP, T.nGlimpses, plF_glimpses p, _, rfl, p.gl, _, _, V.ref g.a, rfl, rfl, SqL.of L3.gl, ?_, g.a, C.G, g.dx, _, _, rfl, (L3.sub hg).ga, T.cG, T.nFlags, glF_flags g,
        _, rfl, g.l, _, _, V.ref sg.a, rfl, rfl, SqL.of (L3.sub hg).fl, ?_, sg.a, C.S, sg.dx, _, _, rfl, ((L3.sub hg).sub2 hs).sa, T.cS, T.nCells, sgF_cells sg, sg.l, _, rfl, .inl (SqL.of ((L3.sub hg).sub2 hs).sl), _, _, rfl, rfl, ?_⟩
      · rw [e, List.map_append]
        exact atI_last _ _
      · rw [e2, List.map_append]
        exact atI_last _ _
      · have q := k _ s3
        rw [lacksCM_snoc e e2] at q
        show Q (V.bl (decide ((((iv sg.cells).length : Nat) : Int) < 16))) H2
        rw [iv_len, show decide (((sg.cells.length : Nat) : Int) < 16) = decide (sg.cells.length < 16) by
          by_cases z : sg.cells.length < 16
          · rw [decide_eq_true z, decide_eq_true (by omega)]
          · rw [decide_eq_false z, decide_eq_false (by omega)]]
        exact q
theorem scWhole : FnScope ["plate"] ["plate"] (defScope sWhole) := ⟨rfl, rfl, rfl, by decide +kernel, rfl, by decide +kernel, by decide +kernel⟩
theorem ok_whole {f : Addr} {fd : FuncData} (F : Fun K "has_whole_hoists" "has_whole_hoists" sWhole f fd) (T : CsT K C) (dF : Dn P w K mg base CX0 1 "lacks_flags" ["plate"] (spBool C lacksFM)) (dC : Dn P w K mg base CX0 2 "lacks_cells" ["plate"] (spBool C lacksCM)) :
    FnOk P w K mg base CX0 3 f fd ["plate"] (spBool C wholeM) := by
  obtain ⟨fF, fdF, GF, mF, kF, bF⟩ := dF
  obtain ⟨fC, fdC, GC, mC, kC, bC⟩ := dC
  refine F.ok scWhole spBool.len (fun cdv A outer s H vs Q E hr h => ?_)
  obtain ⟨p, rfl, L, k⟩ := h
  have hr1 : Room 1 _ := hr.mono (by decide)
  refine ⟨_, pss_one (ps_ret (pe_and (pe_cmpR (op_ne0 hr.units) (pe_fld (pv 0) rfl) (pe_lst pa_nil) (nomark _))
    (pe_and (pe_not (pe_call GF hr1 rfl mF kF bF .nil pass0 (pa_cons (pv 0) pa_nil))) (pe_one (pe_not (pe_call GC hr rfl mC kC bC .nil pass0 (pa_cons (pv 0) pa_nil))))))), ?_⟩
  refine ⟨_, rfl, p.a, C.P, p.dx, _, _, rfl, L.pl, T.cP, T.nGlimpses, plF_glimpses p, Nat.zero_le _, fun e1 n1 => ?_⟩
  have s1 : Same H (upd H e1 (.lst [])) := same_upd n1
  have L1 := L.same s1
  refine ⟨p.gl, e1, _, rfl, rfl, SqL.of L1.gl, SqL.of upd_same, _, rfl, ?_⟩
  have ew : p.m.glimpses.isEmpty = p.glimpses.isEmpty := by unfold PlA.m; cases p.glimpses <;> rfl
  rw [show (p.glimpses.map fun g => V.ref g.a).isEmpty = p.glimpses.isEmpty by cases p.glimpses <;> rfl]
  refine ite2 (fun hc => ?_) (fun hc => ?_)
  · refine ⟨_, rfl, p, rfl, L1, fun H2 s2 => ⟨_, rfl, _, rfl, ite2 (fun hd => ?_) (fun hd => ?_)⟩⟩
    · refine ⟨_, rfl, p, rfl, L1.same s2, fun H3 s3 => ⟨_, rfl, ?_⟩⟩
      have q := k _ ((s1.trans s2).trans s3)
      unfold wholeM at q
      rw [ew, hc, hd] at q
      simpa using q
    · have q := k _ (s1.trans s2)
      unfold wholeM at q
      have hd : (!lacksFM p.m) = false := by simpa using hd
      rw [hd, Bool.false_and, Bool.and_false] at q
      exact q
  · have q := k _ s1
    unfold wholeM at q
    have hc : (!p.glimpses.isEmpty) = false := by simpa using hc
    rw [ew, hc, Bool.false_and] at q
    exact q
/-! ### may_stand -/
def spMay (C : Cs) : Sp := fun vs H Q _ => ∃ (p : PlA) (n : Nat), vs = [.ref p.a, .int (n : Nat)] ∧ Lies H (plN C p) ∧ ∀ H', Same H H' → Q (.bl (mayM p.m n)) H'
theorem scMay : FnScope ["plate", "sort"] ["plate", "sort"] (defScope sMay) := ⟨rfl, rfl, rfl, by decide +kernel, rfl, by decide +kernel, by decide +kernel⟩
theorem dec_nat (a b : Nat) : decide (V.int (a : Nat) = V.int (b : Nat)) = decide (a = b) := by
  by_cases h : a = b
  · subst h; simp
  · rw [decide_eq_false h, decide_eq_false]
    intro q
    injection q with q
    omega
theorem dec_lt (a b : Nat) : decide (((a : Nat) : Int) < ((b : Nat) : Int)) = decide (a < b) := by
  by_cases h : a < b
  · rw [decide_eq_true h, decide_eq_true (by omega)]
  · rw [decide_eq_false h, decide_eq_false (by omega)]
theorem ok_may {f : Addr} {fd : FuncData} (F : Fun K "may_stand" "may_stand" sMay f fd) (T : CsT K C) (tL : mg "len" = none) (c0 : Cn mg "SIDE_LINE" (.int 0)) (c1 : Cn mg "HOIST_LINE" (.int 1)) (c3 : Cn mg "CELLS_LINE" (.int 3)) (cH : Cn mg "MOST_HOISTS" (.int 4)) (cF : Cn mg "MOST_FLAGS" (.int 8))
    (dF : Dn P w K mg base CX0 1 "lacks_flags" ["plate"] (spBool C lacksFM)) (dC : Dn P w K mg base CX0 2 "lacks_cells" ["plate"] (spBool C lacksCM)) :
    FnOk P w K mg base CX0 3 f fd ["plate", "sort"] (spMay C) := by
  obtain ⟨u0, m0, r0⟩ := c0
  obtain ⟨u1, m1, r1⟩ := c1
  obtain ⟨u3, m3, r3⟩ := c3
  obtain ⟨uH, mH, rH⟩ := cH
  obtain ⟨uF, mF8, rF⟩ := cF
  obtain ⟨fF, fdF, GF, mF, kF, bF⟩ := dF
  obtain ⟨fC, fdC, GC, mC, kC, bC⟩ := dC
  refine F.ok scMay (fun vs H Q E h => (by obtain ⟨p, n, rfl, _⟩ := h; rfl)) (fun cdv A outer s H vs Q E hr h => ?_)
  obtain ⟨p, n, rfl, L, k⟩ := h
  have hr1 : Room 1 _ := hr.mono (by decide)
  refine ⟨_, pss_cons (ps_if (PW.pt (pw_or (pt_cmpR (op_eq0 hr.units) (pe_fld (pv 0) rfl) (pe_lst pa_nil) (nomark _)) (pw_or1 (pt_cmpR op_eq (pv 1) (pe_glob (by rfl) m0 r0) (nomark _)))))
      (pss_one (ps_ret (pe_and (pe_cmpR (op_eq0 hr.units) (pe_fld (pv 0) rfl) (pe_lst pa_nil) (nomark _)) (pe_one (pe_cmpR op_eq (pv 1) (pe_glob (by rfl) m0 r0) (nomark _)))))) pss_nil)
    (pss_cons (ps_if (PW.pt (pw_or (pt_cmpR op_eq (pv 1) (pe_glob (by rfl) m3 r3) (nomark _)) (pw_or1 (pt_val (pe_call GC hr rfl mC kC bC .nil pass0 (pa_cons (pv 0) pa_nil))))))
      (pss_one (ps_ret (pe_and (pe_cmpR op_eq (pv 1) (pe_glob (by rfl) m3 r3) (nomark _)) (pe_one (pe_call GC hr rfl mC kC bC .nil pass0 (pa_cons (pv 0) pa_nil)))))) pss_nil)
    (pss_cons (ps_if (pt_cmpR op_eq (pv 1) (pe_glob (by rfl) m1 r1) (nomark _))
      (pss_one (ps_ret (pe_and (pe_cmpR op_lt (pe_callB call_len_seq (by rfl) tL PySem.boot_len (pa_cons (pe_fld (pv 0) rfl) pa_nil)) (pe_glob (by rfl) mH rH) (nomark _)) (pe_one (pe_not (pe_call GF hr1 rfl mF kF bF .nil pass0 (pa_cons (pv 0) pa_nil))))))) pss_nil)
    (pss_one (ps_ret (pe_and (pe_cmpR (op_ne0 hr.units) (pe_fld (pv 0) rfl) (pe_lst pa_nil) (nomark _)) (pe_one (pe_cmpR op_lt (pe_callB call_len_seq (by rfl) tL PySem.boot_len (pa_cons (pe_fld (pe_ix ix_list (pe_fld (pv 0) rfl) (pe_un un_neg pe_int) (fun _ _ => rfl)) rfl) pa_nil)) (pe_glob (by rfl) mF8 rF) (nomark _)))))))), ?_⟩
  have ec : p.m.classes.isEmpty = (iv p.classes).isEmpty := by unfold PlA.m iv; cases p.classes <;> rfl
  refine ⟨_, rfl, p.a, C.P, p.dx, _, _, rfl, L.pl, T.cP, T.nClasses, plF_classes p, Nat.zero_le _, fun e1 n1 => ?_⟩
  have s1 : Same H (upd H e1 (.lst [])) := same_upd n1
  have L1 := L.same s1
  refine ⟨p.cl, e1, _, rfl, rfl, SqL.of L1.cl, SqL.of upd_same, _, rfl, ?_⟩
  rw [← ec]
  -- the answer where there are no classes, or the line is the first
  have first : ∀ H1, Same H H1 → (p.m.classes.isEmpty || decide (n = 0)) = true → tRet (tAndV (tOp (rEq0 K) (tFld K (tVar 0) "classes") (tLst tNil)) (tOp rEq (tVar 1) (tC (.int 0)))) { nx := fun _ H' => Q .non H', rt := Q } [some (.ref p.a), some (.int (n : Nat))] H1 := fun H1 t1 hc => by
    have M1 := L.same t1
    refine ⟨_, rfl, p.a, C.P, p.dx, _, _, rfl, M1.pl, T.cP, T.nClasses, plF_classes p, Nat.zero_le _, fun e2 n2 => ?_⟩
    have t2 := same_upd2 (o := .lst []) t1 (t1.free n2)
    refine ⟨p.cl, e2, _, rfl, rfl, SqL.of (L.same t2).cl, SqL.of upd_same, _, rfl, ?_⟩
    rw [← ec]
    have q := k _ t2
    unfold mayM at q
    rw [if_pos hc] at q
    refine ite2 (fun hd => ?_) (fun hd => ?_)
    · refine ⟨_, rfl, rfl, ?_⟩
      rw [hd, Bool.true_and] at q
      rw [show V.int 0 = V.int ((0 : Nat) : Int) from rfl, dec_nat]
      exact q
    · have hd : p.m.classes.isEmpty = false := by simpa using hd
      rw [hd, Bool.false_and] at q
      exact q
  refine ite2 (fun hc => first _ s1 (by rw [hc]; rfl)) (fun hc => ?_)
  have hc : p.m.classes.isEmpty = false := by simpa using hc
  refine ⟨_, rfl, rfl, _, rfl, ?_⟩
  rw [show V.int 0 = V.int ((0 : Nat) : Int) from rfl, dec_nat]
  refine ite2 (fun hd => first _ s1 (by rw [hd]; simp)) (fun hd => ?_)
  have hd : decide (n = 0) = false := by simpa using hd
  -- the cells
  have second : ∀ H1, Same H H1 → (decide (n = 3) || lacksCM p.m) = true → tRet (tAndV (tOp rEq (tVar 1) (tC (.int 3))) (tCall (spBool C lacksCM) [] E0 (tCons (tVar 0) tNil))) { nx := fun _ H' => Q .non H', rt := Q } [some (.ref p.a), some (.int (n : Nat))] H1 := fun H1 t1 h2 => by
    refine ⟨_, rfl, rfl, _, rfl, ?_⟩
    rw [show V.int 3 = V.int ((3 : Nat) : Int) from rfl, dec_nat]
    refine ite2 (fun h3 => ⟨_, rfl, p, rfl, L.same t1, fun H2 t2 => ?_⟩) (fun h3 => ?_)
    · have q := k _ (t1.trans t2)
      unfold mayM at q
      rw [hc, hd, Bool.or_self, if_neg Bool.false_ne_true, if_pos h2, h3, Bool.true_and] at q
      exact q
    · have h3 : decide (n = 3) = false := by simpa using h3
      have q := k _ t1
      unfold mayM at q
      rw [hc, hd, Bool.or_self, if_neg Bool.false_ne_true, if_pos h2, h3, Bool.false_and] at q
      exact q
  refine ⟨_, rfl, rfl, _, rfl, ?_⟩
  rw [show V.int 3 = V.int ((3 : Nat) : Int) from rfl, dec_nat]
  refine ite2 (fun h3 => second _ s1 (by rw [h3]; rfl)) (fun h3 => ⟨_, rfl, p, rfl, L1, fun H2 s2 => ⟨_, rfl, ite2 (fun h4 => second _ (s1.trans s2) (by rw [h4]; simp)) (fun h4 => ?_)⟩⟩)
  have h3 : decide (n = 3) = false := by simpa using h3
  have h4 : lacksCM p.m = false := by simpa using h4
  have s3 := s1.trans s2
  have rest : ∀ H', Same H H' → Q (.bl (if decide (n = 1) = true then decide (p.m.glimpses.length < 4) && !lacksFM p.m else match p.m.glimpses.getLast? with
    | some g => decide (g.flags.length < 8)
    | none => false)) H' := fun H' t => by
    have q := k _ t
    unfold mayM at q
    rw [hc, hd, Bool.or_self, if_neg Bool.false_ne_true, h3, h4, Bool.or_self, if_neg Bool.false_ne_true] at q
    exact q
  have L3 := L.same s3
  refine ⟨_, rfl, rfl, _, rfl, ?_⟩
  rw [show V.int 1 = V.int ((1 : Nat) : Int) from rfl, dec_nat]
  refine ite2 (fun h1 => ?_) (fun h1 => ?_)
  · refine ⟨_, rfl, p.a, C.P, p.dx, _, _, rfl, L3.pl, T.cP, T.nGlimpses, plF_glimpses p, p.gl, _, rfl, .inl (SqL.of L3.gl), _, _, rfl, rfl, _, rfl, ?_⟩
    have e4 : decide ((((p.glimpses.map fun g => V.ref g.a).length : Nat) : Int) < 4) = decide (p.m.glimpses.length < 4) := by
      rw [show (4 : Int) = ((4 : Nat) : Int) from rfl, dec_lt]
      unfold PlA.m
      simp only [List.length_map]
    rw [e4]
    refine ite2 (fun h5 => ⟨_, rfl, p, rfl, L3, fun H3 s4 => ⟨_, rfl, ?_⟩⟩) (fun h5 => ?_)
    · have q := rest _ (s3.trans s4)
      rw [if_pos h1, h5, Bool.true_and] at q
      exact q
    · have h5 : decide (p.m.glimpses.length < 4) = false := by simpa using h5
      have q := rest _ s3
      rw [if_pos h1, h5, Bool.false_and] at q
      exact q
  · refine ⟨_, rfl, p.a, C.P, p.dx, _, _, rfl, L3.pl, T.cP, T.nGlimpses, plF_glimpses p, Nat.zero_le _, fun e5 n5 => ?_⟩
    have s5 := same_upd2 (o := .lst []) s3 (s3.free n5)
    have L5 := L.same s5
    refine ⟨p.gl, e5, _, rfl, rfl, SqL.of L5.gl, SqL.of upd_same, _, rfl, ?_⟩
    rcases last_cases p.glimpses with e | ⟨gs, g, e⟩
    · rw [e]
      refine iteF ?_
      have q := rest _ s5
      rw [if_neg h1, show p.m.glimpses = [] by unfold PlA.m; rw [e]; rfl] at q
      exact q
    · have hg : g ∈ p.glimpses := by rw [e]; simp
      have ne : (!(p.glimpses.map fun g => V.ref g.a).isEmpty) = true := by rw [e, List.map_append]; simp
      rw [ne]
      refine iteT ⟨_, rfl, p.a, C.P, p.dx, _, _, rfl, L5.pl, T.cP, T.nGlimpses, plF_glimpses p, _, rfl, p.gl, _, _, V.ref g.a, rfl, rfl, SqL.of L5.gl, ?_, g.a, C.G, g.dx, _, _, rfl, (L5.sub hg).ga, T.cG, T.nFlags, glF_flags g, g.l, _, rfl, .inl (SqL.of (L5.sub hg).fl), _, _, rfl, rfl, ?_⟩
      · rw [e, List.map_append]
        exact atI_last _ _
      · have q := rest _ s5
        have eg : p.m.glimpses.getLast? = some g.m := by
          unfold PlA.m
          dsimp only
          rw [e, List.map_append, List.map_cons, List.map_nil, List.getLast?_append, List.getLast?_singleton]
          rfl
        rw [if_neg h1, eg] at q
        show Q (V.bl (decide ((((g.flags.map fun s => V.ref s.a).length : Nat) : Int) < ((8 : Nat) : Int)))) _
        rw [dec_lt, List.length_map]
        have e6 : g.m.flags.length = g.flags.length := by unfold GlA.m; simp only [List.length_map]
        dsimp only at q
        rw [e6] at q
        exact q
end
end HD
end
section
set_option Elab.async false
set_option linter.all false
set_option maxRecDepth 100000
set_option maxHeartbeats 2000000
namespace HD
open PySem PySem.Spec PyProof.Rows L2
open PySem.W (Codec)
/-! ### making an object of two, three values -/
def spMk (C : Addr) (ns : List Str) : Sp := fun vs H Q _ => ∃ (x dx : Addr) (as : List V), vs = .ref x :: as ∧ as.length = ns.length ∧ H x = some (.ins C dx []) ∧ ∀ H', H' x = some (.ins C dx (ns.zip as)) → (∀ b o, H b = some o → b ≠ x → H' b = some o) → Q .non H'
def MkD (P : Program) (w : World) (K : PySem.W.Frag) (mg : Str → Option Value) (base : Heap) (x : Str) (C : Addr) (ns : List Str) : Prop :=
  ∃ f fd, Mk K C f ∧ FnOk P w K mg base CX0 1 f fd ("self" :: ns) (spMk C ns) ∧ mg x = some (.ref C) ∧ L2.Binds K fd ("self" :: ns) []
theorem putF_ne {f g : Str} {v x : V} {r : List (Str × V)} (h : ¬ g = f) : putF f v ((g, x) :: r) = (g, x) :: putF f v r := by
  show (if g = f then (g, v) :: r else (g, x) :: putF f v r) = _
  rw [if_neg h]
section
variable {P : Program} {w : World} {K : PySem.W.Frag} {mg : Str → Option Value} {base : Heap} {C : Cs}
theorem scSightingI : FnScope ["self", "shape", "cells"] ["self", "shape", "cells"] (defScope sSightingI) := ⟨rfl, rfl, rfl, by decide +kernel, rfl, by decide +kernel, by decide +kernel⟩
theorem ok_sightingI {f : Addr} {fd : FuncData} (F : Fun K "__init__" "Sighting.__init__" sSightingI f fd) (T : CsT K C) : FnOk P w K mg base CX0 1 f fd ["self", "shape", "cells"] (spMk C.S ["shape", "cells"]) := by
  refine F.ok scSightingI (fun vs H Q E h => ?_) (fun cdv A outer s H vs Q E hr h => ?_)
  · obtain ⟨x, dx, as, rfl, hl, _⟩ := h
    exact congrArg (· + 1) hl
  · obtain ⟨x, dx, as, rfl, hl, h1, k⟩ := h
    obtain ⟨a, b, rfl⟩ : ∃ a b, as = [a, b] := by
      match as, hl with
      | [a, b], _ => exact ⟨a, b, rfl⟩
    refine ⟨_, pss_cons (ps_fld (pv 0) (pv 1) rfl) (pss_one (ps_fld (pv 0) (pv 2) rfl)), ?_⟩
    refine ⟨_, rfl, _, rfl, x, C.S, dx, [], rfl, h1, T.cS, T.nShape, (by show 0 < 1000; decide), _, rfl, _, rfl, x, C.S, dx, _, rfl, upd_same, T.cS, T.nCells, (by show 1 < 1000; decide), ?_⟩
    refine k _ ?_ fun b o e hb => by rw [upd_ne hb, upd_ne hb]; exact e
    rw [upd_same]
    exact congrArg (fun z => some (HO.ins C.S dx z)) (putF_ne (by decide +kernel))
theorem scGlimpseI : FnScope ["self", "above", "below", "flags"] ["self", "above", "below", "flags"] (defScope sGlimpseI) := ⟨rfl, rfl, rfl, by decide +kernel, rfl, by decide +kernel, by decide +kernel⟩
theorem ok_glimpseI {f : Addr} {fd : FuncData} (F : Fun K "__init__" "Glimpse.__init__" sGlimpseI f fd) (T : CsT K C) : FnOk P w K mg base CX0 1 f fd ["self", "above", "below", "flags"] (spMk C.G ["above", "below", "flags"]) := by
  refine F.ok scGlimpseI (fun vs H Q E h => ?_) (fun cdv A outer s H vs Q E hr h => ?_)
  · obtain ⟨x, dx, as, rfl, hl, _⟩ := h
    exact congrArg (· + 1) hl
  · obtain ⟨x, dx, as, rfl, hl, h1, k⟩ := h
    obtain ⟨a, b, c, rfl⟩ : ∃ a b c, as = [a, b, c] := by
      match as, hl with
      | [a, b, c], _ => exact ⟨a, b, c, rfl⟩
    refine ⟨_, pss_cons (ps_fld (pv 0) (pv 1) rfl) (pss_cons (ps_fld (pv 0) (pv 2) rfl) (pss_one (ps_fld (pv 0) (pv 3) rfl))), ?_⟩
    refine ⟨_, rfl, _, rfl, x, C.G, dx, [], rfl, h1, T.cG, T.nAbove, (by show 0 < 1000; decide), _, rfl, _, rfl, x, C.G, dx, _, rfl, upd_same, T.cG, T.nBelow, (by show 1 < 1000; decide),
      _, rfl, _, rfl, x, C.G, dx, _, rfl, upd_same, T.cG, T.nFlags, ?_, ?_⟩
    · exact Nat.lt_of_le_of_lt (length_putF _ _ _) (by show 2 < 1000; decide)
    · refine k _ ?_ fun b o e hb => by rw [upd_ne hb, upd_ne hb, upd_ne hb]; exact e
      rw [upd_same]
      refine congrArg (fun z => some (HO.ins C.G dx z)) ?_
      show putF "flags" c (putF "below" b [("above", a)]) = _
      rw [putF_ne (by decide +kernel), show putF ("below" : Str) b [] = [(("below" : Str), b)] from rfl, putF_ne (by decide +kernel), putF_ne (by decide +kernel)]
      rfl
theorem scPlateI : FnScope ["self", "side", "classes", "glimpses"] ["self", "side", "classes", "glimpses"] (defScope sPlateI) := ⟨rfl, rfl, rfl, by decide +kernel, rfl, by decide +kernel, by decide +kernel⟩
theorem ok_plateI {f : Addr} {fd : FuncData} (F : Fun K "__init__" "Plate.__init__" sPlateI f fd) (T : CsT K C) : FnOk P w K mg base CX0 1 f fd ["self", "side", "classes", "glimpses"] (spMk C.P ["side", "classes", "glimpses"]) := by
  refine F.ok scPlateI (fun vs H Q E h => ?_) (fun cdv A outer s H vs Q E hr h => ?_)
  · obtain ⟨x, dx, as, rfl, hl, _⟩ := h
    exact congrArg (· + 1) hl
  · obtain ⟨x, dx, as, rfl, hl, h1, k⟩ := h
    obtain ⟨a, b, c, rfl⟩ : ∃ a b c, as = [a, b, c] := by
      match as, hl with
      | [a, b, c], _ => exact ⟨a, b, c, rfl⟩
    refine ⟨_, pss_cons (ps_fld (pv 0) (pv 1) rfl) (pss_cons (ps_fld (pv 0) (pv 2) rfl) (pss_one (ps_fld (pv 0) (pv 3) rfl))), ?_⟩
    refine ⟨_, rfl, _, rfl, x, C.P, dx, [], rfl, h1, T.cP, T.nSide, (by show 0 < 1000; decide), _, rfl, _, rfl, x, C.P, dx, _, rfl, upd_same, T.cP, T.nClasses, (by show 1 < 1000; decide),
      _, rfl, _, rfl, x, C.P, dx, _, rfl, upd_same, T.cP, T.nGlimpses, ?_, ?_⟩
    · exact Nat.lt_of_le_of_lt (length_putF _ _ _) (by show 2 < 1000; decide)
    · refine k _ ?_ fun b o e hb => by rw [upd_ne hb, upd_ne hb, upd_ne hb]; exact e
      rw [upd_same]
      refine congrArg (fun z => some (HO.ins C.P dx z)) ?_
      show putF "glimpses" c (putF "classes" b [("side", a)]) = _
      rw [putF_ne (by decide +kernel), show putF ("classes" : Str) b [] = [(("classes" : Str), b)] from rfl, putF_ne (by decide +kernel), putF_ne (by decide +kernel)]
      rfl
end
/-! ### put -/
def putM (m : PlM) : Told → PlM
  | .side s l => ⟨s, l, m.glimpses⟩
  | .hoist k => ⟨m.side, m.classes, m.glimpses ++ [⟨decide (k % 2 = 1), decide (k / 2 = 1), []⟩]⟩
  | .shape k => ⟨m.side, m.classes, m.glimpses.dropLast ++ (m.glimpses.getLast?.map fun g => (⟨g.above, g.below, g.flags ++ [(k, [])]⟩ : GlM)).toList⟩
  | .row l => ⟨m.side, m.classes, m.glimpses.dropLast ++ (m.glimpses.getLast?.map fun g => (⟨g.above, g.below, g.flags.dropLast ++ (g.flags.getLast?.map fun s => (s.1, s.2 ++ l)).toList⟩ : GlM)).toList⟩
/-- it lies so, and no two of its things are one -/
structure Rep (C : Cs) (H : Hp) (p : PlA) : Prop where
  lies : Lies H (plN C p)
  nd : ((plN C p).map (·.1)).Nodup
theorem may1 {m : PlM} (h : mayM m 1 = true) : m.glimpses.length < 4 := by
  unfold mayM at h
  split at h
  · simp at h
  · split at h
    · simp at h
    · simp at h
      exact h.1
theorem may2 {m : PlM} (h : mayM m 2 = true) : ∃ g, m.glimpses.getLast? = some g ∧ g.flags.length < 8 := by
  unfold mayM at h
  split at h
  · simp at h
  · split at h
    · simp at h
    · split at h
      · rename_i z
        exact absurd z (by decide)
      · split at h
        · rename_i g e
          exact ⟨g, e, by simpa using h⟩
        · cases h
theorem may3 {m : PlM} (h : mayM m 3 = true) : ∃ g s, m.glimpses.getLast? = some g ∧ g.flags.getLast? = some s ∧ s.2.length < 16 := by
  unfold mayM at h
  split at h
  · simp at h
  · split at h
    · simp at h
      unfold lacksCM at h
      split at h
      · rename_i g e
        split at h
        · rename_i s e2
          exact ⟨g, s, e, e2, by simpa using h⟩
        · cases h
      · cases h
    · rename_i h1 h2
      exact absurd (by simp) h2
theorem snoc_of_last {α β : Type} {f : α → β} {l : List α} {y : β} (h : (l.map f).getLast? = some y) : ∃ r x, l = r ++ [x] ∧ f x = y := by
  rcases last_cases l with e | ⟨r, x, e⟩
  · rw [e] at h; cases h
  · refine ⟨r, x, e, ?_⟩
    rw [e, List.map_append, List.map_cons, List.map_nil, List.getLast?_append, List.getLast?_singleton] at h
    exact Option.some.inj h
def spPut (C : Cs) : Sp := fun vs H Q _ => ∃ (p : PlA) (t : Told) (v : V) (H0 : Hp), vs = [.ref p.a, .int (t.sort : Nat), v] ∧ Rep C H p ∧ Same H0 H ∧ Lies H0 (plN C p) ∧ ToldAt H0 H t v ∧ (∀ l, t = .row l → l.length = 4) ∧ mayM p.m t.sort = true ∧
  ∀ H' p', p'.a = p.a → p'.m = putM p.m t → Rep C H' p' → (∀ b o, H b = some o → b ∉ (plN C p).map (·.1) → H' b = some o) → (∀ b, b ∈ (plN C p').map (·.1) → b ∈ (plN C p).map (·.1) ∨ H0 b = none) → Q .non H'
theorem ite_yes {c A B : Prop} [Decidable c] (hc : c) (h : A) : if decide c = true then A else B := by
  rw [if_pos (decide_eq_true hc)]
  exact h
theorem ite_no {c A B : Prop} [Decidable c] (hc : ¬ c) (h : B) : if decide c = true then A else B := by
  rw [if_neg (by simpa using hc)]
  exact h
/-- an address of the plate -/
theorem addr_some {H : Hp} {ns : List Nd} (h : Lies H ns) {b : Addr} (hb : b ∈ ns.map (·.1)) : ∃ o, H b = some o := by
  obtain ⟨x, hx, rfl⟩ := List.mem_map.mp hb
  exact ⟨_, h x hx⟩
theorem fresh_not {H : Hp} {ns : List Nd} (h : Lies H ns) {b : Addr} (hb : H b = none) : b ∉ ns.map (·.1) := fun z => by
  obtain ⟨o, e⟩ := addr_some h z
  rw [hb] at e
  cases e
end HD
end
section
set_option Elab.async false
set_option linter.all false
set_option maxRecDepth 100000
set_option maxHeartbeats 2000000
namespace HD
open PySem PySem.Spec PyProof.Rows L2
open PySem.W (Codec)
theorem lies_repl {H H2 : Hp} {A B N : List Nd} {b : Addr} {o o' : HO} (L : Lies H (A ++ (b, o) :: B)) (nd : ((A ++ (b, o) :: B).map (·.1)).Nodup) (keep : ∀ c u, H c = some u → c ≠ b → H2 c = some u) (hb : H2 b = some o') (hN : Lies H2 N) :
    Lies H2 (A ++ (b, o') :: (B ++ N)) := fun x hx => by
  rw [List.map_append, List.map_cons] at nd
  obtain ⟨n1, n2, n3⟩ := List.nodup_append.mp nd
  obtain ⟨n4, n5⟩ := List.nodup_cons.mp n2
  rcases List.mem_append.mp hx with hx | hx
  · exact keep _ _ (L x (List.mem_append_left _ hx)) (n3 x.1 (List.mem_map.mpr ⟨x, hx, rfl⟩) b List.mem_cons_self)
  · rcases List.mem_cons.mp hx with rfl | hx
    · exact hb
    · rcases List.mem_append.mp hx with hx | hx
      · exact keep _ _ (L x (List.mem_append_right _ (List.mem_cons_of_mem _ hx))) fun z => n4 (by rw [← z]; exact List.mem_map.mpr ⟨x, hx, rfl⟩)
      · exact hN x hx
theorem nd_repl {A B N : List Nd} {b : Addr} {o o' : HO} (nd : ((A ++ (b, o) :: B).map (·.1)).Nodup) (hn : (N.map (·.1)).Nodup) (hd : ∀ c, c ∈ N.map (·.1) → c ∉ (A ++ (b, o) :: B).map (·.1)) : ((A ++ (b, o') :: (B ++ N)).map (·.1)).Nodup := by
  have e : (A ++ (b, o') :: (B ++ N)).map (·.1) = (A ++ (b, o) :: B).map (·.1) ++ N.map (·.1) := by simp
  rw [e]
  exact List.nodup_append.mpr ⟨nd, hn, fun x hx y hy z => hd y hy (by rw [← z]; exact hx)⟩
theorem addr_repl {A B N : List Nd} {b : Addr} {o o' : HO} {c : Addr} (h : c ∈ (A ++ (b, o') :: (B ++ N)).map (·.1)) : c ∈ (A ++ (b, o) :: B).map (·.1) ∨ c ∈ N.map (·.1) := by
  have e : (A ++ (b, o') :: (B ++ N)).map (·.1) = (A ++ (b, o) :: B).map (·.1) ++ N.map (·.1) := by simp
  rw [e] at h
  exact List.mem_append.mp h
theorem map_a {gs : List GlA} {g g' : GlA} (h : g.a = g'.a) : ((gs ++ [g]).map fun g => V.ref g.a) = (gs ++ [g']).map fun g => V.ref g.a := by
  rw [List.map_append, List.map_append, List.map_cons, List.map_cons, h]
theorem map_s {ss : List SgA} {s s' : SgA} (h : s.a = s'.a) : ((ss ++ [s]).map fun s => V.ref s.a) = (ss ++ [s']).map fun s => V.ref s.a := by
  rw [List.map_append, List.map_append, List.map_cons, List.map_cons, h]
section
variable {P : Program} {w : World} {K : PySem.W.Frag} {mg : Str → Option Value} {base : Heap} {C : Cs}
theorem scPut : FnScope ["plate", "sort", "told"] ["plate", "sort", "told"] (defScope sPut) := ⟨rfl, rfl, rfl, by decide +kernel, rfl, by decide +kernel, by decide +kernel⟩
theorem nmod (k : Nat) : decide (V.int (((k : Nat) : Int) % 2) = V.int 1) = decide (k % 2 = 1) := by
  by_cases h : k % 2 = 1
  · rw [decide_eq_true h, decide_eq_true]
    exact congrArg V.int (by omega)
  · rw [decide_eq_false h, decide_eq_false]
    intro q
    injection q with q
    omega
theorem ndiv (k : Nat) : decide (V.int (((k : Nat) : Int) / 2) = V.int 1) = decide (k / 2 = 1) := by
  by_cases h : k / 2 = 1
  · rw [decide_eq_true h, decide_eq_true]
    exact congrArg V.int (by omega)
  · rw [decide_eq_false h, decide_eq_false]
    intro q
    injection q with q
    omega
theorem ok_put {f : Addr} {fd : FuncData} (F : Fun K "put" "put" sPut f fd) (T : CsT K C) (c0 : Cn mg "SIDE_LINE" (.int 0)) (c1 : Cn mg "HOIST_LINE" (.int 1)) (c2 : Cn mg "SHAPE_LINE" (.int 2))
    (dG : MkD P w K mg base "Glimpse" C.G ["above", "below", "flags"]) (dS : MkD P w K mg base "Sighting" C.S ["shape", "cells"]) : FnOk P w K mg base CX0 3 f fd ["plate", "sort", "told"] (spPut C) := by
  obtain ⟨u0, m0, r0⟩ := c0
  obtain ⟨u1, m1, r1⟩ := c1
  obtain ⟨u2, m2, r2⟩ := c2
  obtain ⟨fG, fdG, MG, GG, mG, bG⟩ := dG
  obtain ⟨fS, fdS, MS, GS, mS, bS⟩ := dS
  refine F.ok scPut (fun vs H Q E h => (by obtain ⟨p, t, v, H0, rfl, _⟩ := h; rfl)) (fun cdv A outer s H vs Q E hr h => ?_)
  obtain ⟨p, t, v, H0, rfl, R, s0, L0, ta, h4, may, k⟩ := h
  refine ⟨_, pss_one (ps_if (pt_cmpR op_eq (pv 1) (pe_glob (by rfl) m0 r0) (nomark _))
      (pss_cons (ps_fld (pv 0) (pe_ix ix_tup (pv 2) pe_int (fun _ _ => rfl)) rfl) (pss_one (ps_fld (pv 0) (pe_ix ix_tup (pv 2) pe_int (fun _ _ => rfl)) rfl)))
    (pss_one (ps_if (pt_cmpR op_eq (pv 1) (pe_glob (by rfl) m1 r1) (nomark _))
      (pss_one (ps_expr (pe_bm PySem.F.plainAttrs_list PySem.F.slot_list_append PySem.F.type_list_append mt_append (pe_fld (pv 0) rfl) (pa_cons (pe_make MG GG hr rfl mG bG .nil pass0
        (pa_cons (pe_cmpR op_eq (pe_op op_mod (pv 2) pe_int) pe_int (nomark _)) (pa_cons (pe_cmpR op_eq (pe_op op_fdiv (pv 2) pe_int) pe_int (nomark _)) (pa_cons (pe_lst pa_nil) pa_nil)))) pa_nil))))
    (pss_one (ps_if (pt_cmpR op_eq (pv 1) (pe_glob (by rfl) m2 r2) (nomark _))
      (pss_one (ps_expr (pe_bm PySem.F.plainAttrs_list PySem.F.slot_list_append PySem.F.type_list_append mt_append (pe_fld (pe_ix ix_list (pe_fld (pv 0) rfl) (pe_un un_neg pe_int) (fun _ _ => rfl)) rfl) (pa_cons (pe_make MS GS hr rfl mS bS .nil pass0
        (pa_cons (pv 2) (pa_cons (pe_lst pa_nil) pa_nil))) pa_nil))))
      (pss_one (ps_expr (pe_bm PySem.F.plainAttrs_list PySem.F.slot_list_extend PySem.F.type_list_extend mt_extend (pe_fld (pe_ix ix_list (pe_fld (pe_ix ix_list (pe_fld (pv 0) rfl) (pe_un un_neg pe_int) (fun _ _ => rfl)) rfl) (pe_un un_neg pe_int) (fun _ _ => rfl)) rfl) (pa_cons (pv 2) pa_nil))))))))), ?_⟩
  have L := R.lies
  cases t with
  | side sd l =>
    obtain ⟨tt, c, rfl, hc0, ht, hc⟩ := ta
    refine ⟨_, rfl, rfl, _, rfl, ite_yes rfl ?_⟩
    refine ⟨_, rfl, tt, _, 0, _, rfl, rfl, SqT.of ht, rfl, _, rfl, p.a, C.P, p.dx, _, rfl, L.pl, T.cP, T.nSide, (by show 3 < 1000; decide), ?_⟩
    have nta : tt ≠ p.a := ne_of ht L.pl (by intro z; cases z)
    refine ⟨_, rfl, tt, _, 1, _, rfl, rfl, SqT.of (by rw [upd_ne nta]; exact ht), rfl, _, rfl, p.a, C.P, p.dx, _, rfl, upd_same, T.cP, T.nClasses, ?_, ?_⟩
    · exact Nat.lt_of_le_of_lt (length_putF _ _ _) (by show 4 < 1000; decide)
    · have cnot : c ∉ (plN C p).map (·.1) := fresh_not L0 hc0
      have hpa : p.a ∈ (plN C p).map (·.1) := by unfold plN; simp
      have hca : c ≠ p.a := fun z => cnot (by rw [z]; exact hpa)
      have nd := R.nd
      have nd1 := (List.nodup_cons.mp (show (p.a :: ((p.cl, HO.lst (iv p.classes)) :: (p.gl, HO.lst (p.glimpses.map fun g => V.ref g.a)) :: p.glimpses.flatMap (glN C)).map (·.1)).Nodup from nd))
      have nd2 := (List.nodup_cons.mp (show (p.cl :: ((p.gl, HO.lst (p.glimpses.map fun g => V.ref g.a)) :: p.glimpses.flatMap (glN C)).map (·.1)).Nodup from nd1.2))
      have sub : ∀ b, b ∈ ((p.gl, HO.lst (p.glimpses.map fun g => V.ref g.a)) :: p.glimpses.flatMap (glN C)).map (·.1) → b ∈ (plN C p).map (·.1) := fun b hb => List.mem_cons_of_mem _ (List.mem_cons_of_mem _ hb)
      refine k _ { p with cl := c, side := sd, classes := l } rfl rfl ⟨fun x hx => ?_, ?_⟩ (fun b o e nb => ?_) (fun b hb => ?_)
      · have hx : x ∈ (p.a, HO.ins C.P p.dx (plF { p with cl := c, side := sd, classes := l })) :: (c, HO.lst (iv l)) :: ((p.gl, HO.lst (p.glimpses.map fun g => V.ref g.a)) :: p.glimpses.flatMap (glN C)) := hx
        rcases List.mem_cons.mp hx with rfl | hx
        · rw [upd_same]
          refine congrArg (fun z => some (HO.ins C.P p.dx z)) ?_
          show putF "classes" (V.ref c) (putF "side" (V.int (sd : Nat)) (plF p)) = _
          unfold plF
          rw [show putF ("side" : Str) (V.int (sd : Nat)) [(("side" : Str), V.int (p.side : Nat)), (("classes" : Str), V.ref p.cl), (("glimpses" : Str), V.ref p.gl)] = [(("side" : Str), V.int (sd : Nat)), (("classes" : Str), V.ref p.cl), (("glimpses" : Str), V.ref p.gl)] from if_pos rfl]
          rw [putF_ne (by decide +kernel), show putF ("classes" : Str) (V.ref c) [(("classes" : Str), V.ref p.cl), (("glimpses" : Str), V.ref p.gl)] = [(("classes" : Str), V.ref c), (("glimpses" : Str), V.ref p.gl)] from if_pos rfl]
        · rcases List.mem_cons.mp hx with rfl | hx
          · rw [upd_ne hca, upd_ne hca]
            exact hc
          · have hxa : x.1 ≠ p.a := fun z => nd1.1 (by rw [← z]; exact List.mem_cons_of_mem _ (List.mem_map.mpr ⟨x, hx, rfl⟩))
            rw [upd_ne hxa, upd_ne hxa]
            exact L x (List.mem_cons_of_mem _ (List.mem_cons_of_mem _ hx))
      · refine List.nodup_cons.mpr ⟨fun z => ?_, List.nodup_cons.mpr ⟨fun z => cnot (sub c z), nd2.2⟩⟩
        rcases List.mem_cons.mp z with z | z
        · exact hca z.symm
        · exact nd1.1 (List.mem_cons_of_mem _ z)
      · rw [upd_ne (fun z => nb (by rw [z]; exact hpa)), upd_ne (fun z => nb (by rw [z]; exact hpa))]
        exact e
      · rcases List.mem_cons.mp hb with z | z
        · exact .inl (by rw [z]; exact hpa)
        · rcases List.mem_cons.mp z with z | z
          · exact .inr (by rw [z]; exact hc0)
          · exact .inl (sub b z)
  | hoist n =>
    obtain rfl : v = V.int (n : Nat) := ta
    have hlen := may1 may
    refine ⟨_, rfl, rfl, _, rfl, ite_no (show ¬ V.int ((1 : Nat) : Int) = V.int 0 by decide) ⟨_, rfl, rfl, _, rfl, ite_yes rfl ?_⟩⟩
    refine ⟨_, rfl, p.a, C.P, p.dx, _, _, rfl, L.pl, T.cP, T.nGlimpses, plF_glimpses p, .inl ⟨rfl, _, SqL.of L.gl⟩, _, rfl, _, _, rfl, rfl, (by show (0 : Int) < 2; decide), rfl, _, rfl, _, _, rfl, rfl, ⟨by decide, by decide⟩, rfl, Nat.zero_le _, fun l hl => ?_⟩
    intro x dx hx hdx hne
    refine ⟨x, dx, _, rfl, rfl, upd_same, fun H2 h2 k2 => ⟨rfl, ?_⟩⟩
    have s1 : Same H (upd H l (.lst [])) := same_upd hl
    have s2 : Same (upd H l (.lst [])) H2 := Same.made hx hdx k2
    have s3 := s1.trans s2
    have hlx : l ≠ x := fun z => by rw [← z, upd_same] at hx; cases hx
    have hl2 : H2 l = some (.lst []) := s2 _ _ upd_same
    refine ⟨p.gl, _, _, rfl, rfl, s3 _ _ L.gl, ?_, ?_⟩
    · rw [List.length_map]
      unfold PlA.m at hlen
      simp only [List.length_map] at hlen
      exact line_ge (by omega)
    · have e1 : plN C p = [(p.a, .ins C.P p.dx (plF p)), (p.cl, .lst (iv p.classes))] ++ (p.gl, .lst (p.glimpses.map fun g => V.ref g.a)) :: p.glimpses.flatMap (glN C) := rfl
      have e2 : plN C { p with glimpses := p.glimpses ++ [⟨x, dx, l, decide (n % 2 = 1), decide (n / 2 = 1), []⟩] } = [(p.a, .ins C.P p.dx (plF p)), (p.cl, .lst (iv p.classes))] ++ (p.gl, .lst ((p.glimpses ++ [(⟨x, dx, l, decide (n % 2 = 1), decide (n / 2 = 1), []⟩ : GlA)]).map fun g => V.ref g.a)) :: (p.glimpses.flatMap (glN C) ++ [(x, .ins C.G dx (glF ⟨x, dx, l, decide (n % 2 = 1), decide (n / 2 = 1), []⟩)), (l, .lst [])]) := by
        show (p.a, HO.ins C.P p.dx (plF p)) :: (p.cl, HO.lst (iv p.classes)) :: (p.gl, _) :: (p.glimpses ++ [_]).flatMap (glN C) = _
        rw [List.flatMap_append]
        rfl
      have xnot : x ∉ (plN C p).map (·.1) := fresh_not L (s1.free hx)
      have lnot : l ∉ (plN C p).map (·.1) := fresh_not L hl
      have glin : p.gl ∈ (plN C p).map (·.1) := by unfold plN; simp
      have hxg : x ≠ p.gl := fun z => xnot (by rw [z]; exact glin)
      have hlg : l ≠ p.gl := fun z => lnot (by rw [z]; exact glin)
      refine k _ { p with glimpses := p.glimpses ++ [⟨x, dx, l, decide (n % 2 = 1), decide (n / 2 = 1), []⟩] } rfl ?_ ⟨?_, ?_⟩ (fun b o e nb => ?_) (fun b hb => ?_)
      · unfold PlA.m putM
        dsimp only
        rw [List.map_append]
        rfl
      · rw [e2]
        refine lies_repl (H := H) (by rw [← e1]; exact L) (by rw [← e1]; exact R.nd) (fun c u e hc => by rw [upd_ne hc]; exact s3 _ _ e) ?_ (fun y hy => ?_)
        · rw [upd_same, List.map_append]
          rfl
        · rcases List.mem_cons.mp hy with rfl | hy
          rotate_left
          obtain rfl := List.mem_singleton.mp hy
          rotate_left
          · rw [upd_ne hxg, h2]
            refine congrArg (fun z => some (HO.ins C.G dx z)) ?_
            rw [nmod, ndiv]
            rfl
          · rw [upd_ne hlg]
            exact hl2
      · rw [e2]
        refine nd_repl (by rw [← e1]; exact R.nd) (by simp [Ne.symm hlx]) (fun c hc => ?_)
        have hc : c = x ∨ c = l := by simpa using hc
        rw [← e1]
        rcases hc with rfl | rfl
        · exact xnot
        · exact lnot
      · rw [upd_ne (fun z => nb (by rw [z]; exact glin))]
        exact s3 _ _ e
      · rw [e2] at hb
        rcases addr_repl hb with hb | hb
        · exact .inl hb
        · have hb : b = x ∨ b = l := by simpa using hb
          rcases hb with rfl | rfl
          · exact .inr (s0.free (s1.free hx))
          · exact .inr (s0.free hl)
  | shape n =>
    obtain rfl : v = V.int (n : Nat) := ta
    obtain ⟨gm, eg, hlen⟩ := may2 may
    obtain ⟨gs, g, egl, rfl⟩ := snoc_of_last (show (p.glimpses.map GlA.m).getLast? = some gm from eg)
    have hg : g ∈ p.glimpses := by rw [egl]; simp
    refine ⟨_, rfl, rfl, _, rfl, ite_no (show ¬ V.int ((2 : Nat) : Int) = V.int 0 by decide) ⟨_, rfl, rfl, _, rfl, ite_no (show ¬ V.int ((2 : Nat) : Int) = V.int 1 by decide) ⟨_, rfl, rfl, _, rfl, ite_yes rfl ?_⟩⟩⟩
    refine ⟨_, rfl, p.a, C.P, p.dx, _, _, rfl, L.pl, T.cP, T.nGlimpses, plF_glimpses p, _, rfl, p.gl, _, _, V.ref g.a, rfl, rfl, SqL.of L.gl, ?_, g.a, C.G, g.dx, _, _, rfl, (L.sub hg).ga, T.cG, T.nFlags, glF_flags g, .inl ⟨rfl, _, SqL.of (L.sub hg).fl⟩, _, rfl, Nat.zero_le _, fun l hl => ?_⟩
    · rw [egl, List.map_append]
      exact atI_last _ _
    intro x dx hx hdx hne
    refine ⟨x, dx, _, rfl, rfl, upd_same, fun H2 h2 k2 => ⟨rfl, ?_⟩⟩
    have s1 : Same H (upd H l (.lst [])) := same_upd hl
    have s2 : Same (upd H l (.lst [])) H2 := Same.made hx hdx k2
    have s3 := s1.trans s2
    have hlx : l ≠ x := fun z => by rw [← z, upd_same] at hx; cases hx
    have hl2 : H2 l = some (.lst []) := s2 _ _ upd_same
    refine ⟨g.l, _, _, rfl, rfl, s3 _ _ (L.sub hg).fl, ?_, ?_⟩
    · rw [List.length_map]
      unfold GlA.m at hlen
      simp only [List.length_map] at hlen
      exact line_ge (by omega)
    · have e1 : plN C p = ((p.a, .ins C.P p.dx (plF p)) :: (p.cl, .lst (iv p.classes)) :: (p.gl, .lst (p.glimpses.map fun g => V.ref g.a)) :: (gs.flatMap (glN C) ++ [(g.a, .ins C.G g.dx (glF g))])) ++ (g.l, .lst (g.flags.map fun s => V.ref s.a)) :: g.flags.flatMap (sgN C) := by
        unfold plN
        rw [show p.glimpses.flatMap (glN C) = gs.flatMap (glN C) ++ glN C g by rw [egl, List.flatMap_append]; simp]
        unfold glN
        simp
      have e2 : plN C { p with glimpses := gs ++ [{ g with flags := g.flags ++ [⟨x, dx, l, n, []⟩] }] } = ((p.a, .ins C.P p.dx (plF p)) :: (p.cl, .lst (iv p.classes)) :: (p.gl, .lst (p.glimpses.map fun g => V.ref g.a)) :: (gs.flatMap (glN C) ++ [(g.a, .ins C.G g.dx (glF g))])) ++ (g.l, .lst ((g.flags ++ [(⟨x, dx, l, n, []⟩ : SgA)]).map fun s => V.ref s.a)) :: (g.flags.flatMap (sgN C) ++ [(x, .ins C.S dx (sgF ⟨x, dx, l, n, []⟩)), (l, .lst [])]) := by
        unfold plN
        dsimp only
        rw [List.flatMap_append, egl, map_a (gs := gs) (g := g) (g' := { g with flags := g.flags ++ [⟨x, dx, l, n, []⟩] }) rfl]
        simp [glN, List.flatMap_append, plF, glF, sgN, iv]
      have xnot : x ∉ (plN C p).map (·.1) := fresh_not L (s1.free hx)
      have lnot : l ∉ (plN C p).map (·.1) := fresh_not L hl
      have glin : g.l ∈ (plN C p).map (·.1) := by rw [e1]; simp
      have hxg : x ≠ g.l := fun z => xnot (by rw [z]; exact glin)
      have hlg : l ≠ g.l := fun z => lnot (by rw [z]; exact glin)
      refine k _ { p with glimpses := gs ++ [{ g with flags := g.flags ++ [⟨x, dx, l, n, []⟩] }] } rfl ?_ ⟨?_, ?_⟩ (fun b o e nb => ?_) (fun b hb => ?_)
      · unfold PlA.m putM
        dsimp only
        simp [GlA.m, SgA.m, egl, List.getLast?_append]
      · rw [e2]
        refine lies_repl (H := H) (by rw [← e1]; exact L) (by rw [← e1]; exact R.nd) (fun c u e hc => by rw [upd_ne hc]; exact s3 _ _ e) ?_ (fun y hy => ?_)
        · rw [upd_same, List.map_append]
          rfl
        · rcases List.mem_cons.mp hy with rfl | hy
          rotate_left
          obtain rfl := List.mem_singleton.mp hy
          rotate_left
          · rw [upd_ne hxg, h2]
            rfl
          · rw [upd_ne hlg]
            exact hl2
      · rw [e2]
        refine nd_repl (by rw [← e1]; exact R.nd) (by simp [Ne.symm hlx]) (fun c hc => ?_)
        have hc : c = x ∨ c = l := by simpa using hc
        rw [← e1]
        rcases hc with rfl | rfl
        · exact xnot
        · exact lnot
      · rw [upd_ne (fun z => nb (by rw [z]; exact glin))]
        exact s3 _ _ e
      · rw [e2] at hb
        rcases addr_repl hb with hb | hb
        · exact .inl (by rw [e1]; exact hb)
        · have hb : b = x ∨ b = l := by simpa using hb
          rcases hb with rfl | rfl
          · exact .inr (s0.free (s1.free hx))
          · exact .inr (s0.free hl)
  | row l =>
    obtain ⟨c, rfl, hc0, hc⟩ := ta
    obtain ⟨gm, sm, eg, es, hlen⟩ := may3 may
    obtain ⟨gs, g, egl, rfl⟩ := snoc_of_last (show (p.glimpses.map GlA.m).getLast? = some gm from eg)
    obtain ⟨ss, sg, esl, rfl⟩ := snoc_of_last (show (g.flags.map SgA.m).getLast? = some sm from es)
    have hg : g ∈ p.glimpses := by rw [egl]; simp
    have hs : sg ∈ g.flags := by rw [esl]; simp
    have hl4 := h4 l rfl
    refine ⟨_, rfl, rfl, _, rfl, ite_no (show ¬ V.int ((3 : Nat) : Int) = V.int 0 by decide) ⟨_, rfl, rfl, _, rfl, ite_no (show ¬ V.int ((3 : Nat) : Int) = V.int 1 by decide) ⟨_, rfl, rfl, _, rfl, ite_no (show ¬ V.int ((3 : Nat) : Int) = V.int 2 by decide) ?_⟩⟩⟩
    refine ⟨_, rfl, p.a, C.P, p.dx, _, _, rfl, L.pl, T.cP, T.nGlimpses, plF_glimpses p, _, rfl, p.gl, _, _, V.ref g.a, rfl, rfl, SqL.of L.gl, ?_, g.a, C.G, g.dx, _, _, rfl, (L.sub hg).ga, T.cG, T.nFlags, glF_flags g,
      _, rfl, g.l, _, _, V.ref sg.a, rfl, rfl, SqL.of (L.sub hg).fl, ?_, sg.a, C.S, sg.dx, _, _, rfl, ((L.sub hg).sub2 hs).sa, T.cS, T.nCells, sgF_cells sg, .inl ⟨rfl, _, SqL.of ((L.sub hg).sub2 hs).sl⟩, _, rfl, sg.l, c, _, _, rfl, rfl, ((L.sub hg).sub2 hs).sl, hc, ?_, ?_⟩
    · rw [egl, List.map_append]
      exact atI_last _ _
    · rw [esl, List.map_append]
      exact atI_last _ _
    · have : sg.cells.length < 16 := hlen
      rw [iv_len, iv_len, hl4]
      exact Nat.le_of_lt (line_ge (by omega))
    · have e1 : plN C p = ((p.a, .ins C.P p.dx (plF p)) :: (p.cl, .lst (iv p.classes)) :: (p.gl, .lst (p.glimpses.map fun g => V.ref g.a)) :: (gs.flatMap (glN C) ++ ((g.a, .ins C.G g.dx (glF g)) :: (g.l, .lst (g.flags.map fun s => V.ref s.a)) :: (ss.flatMap (sgN C) ++ [(sg.a, .ins C.S sg.dx (sgF sg))])))) ++ (sg.l, .lst (iv sg.cells)) :: [] := by
        unfold plN
        rw [show p.glimpses.flatMap (glN C) = gs.flatMap (glN C) ++ glN C g by rw [egl, List.flatMap_append]; simp]
        unfold glN
        rw [show g.flags.flatMap (sgN C) = ss.flatMap (sgN C) ++ sgN C sg by rw [esl, List.flatMap_append]; simp]
        simp [sgN]
      have e2 : plN C { p with glimpses := gs ++ [{ g with flags := ss ++ [{ sg with cells := sg.cells ++ l }] }] } = ((p.a, .ins C.P p.dx (plF p)) :: (p.cl, .lst (iv p.classes)) :: (p.gl, .lst (p.glimpses.map fun g => V.ref g.a)) :: (gs.flatMap (glN C) ++ ((g.a, .ins C.G g.dx (glF g)) :: (g.l, .lst (g.flags.map fun s => V.ref s.a)) :: (ss.flatMap (sgN C) ++ [(sg.a, .ins C.S sg.dx (sgF sg))])))) ++ (sg.l, .lst (iv (sg.cells ++ l))) :: ([] ++ []) := by
        unfold plN
        dsimp only
        rw [List.flatMap_append, egl, map_a (gs := gs) (g := g) (g' := { g with flags := ss ++ [{ sg with cells := sg.cells ++ l }] }) rfl]
        rw [esl, map_s (ss := ss) (s := sg) (s' := { sg with cells := sg.cells ++ l }) rfl]
        simp [glN, List.flatMap_append, plF, glF, sgN, sgF]
      have glin : sg.l ∈ (plN C p).map (·.1) := by rw [e1]; simp
      refine k _ { p with glimpses := gs ++ [{ g with flags := ss ++ [{ sg with cells := sg.cells ++ l }] }] } rfl ?_ ⟨?_, ?_⟩ (fun b o e nb => ?_) (fun b hb => ?_)
      · unfold PlA.m putM
        dsimp only
        simp [GlA.m, SgA.m, egl, esl, List.getLast?_append]
      · rw [e2]
        refine lies_repl (H := H) (by rw [← e1]; exact L) (by rw [← e1]; exact R.nd) (fun c u e hc => by rw [upd_ne hc]; exact e) ?_ (fun y hy => absurd hy (by simp))
        rw [upd_same]
        refine congrArg (fun z => some (HO.lst z)) ?_
        unfold iv
        rw [List.map_append]
      · rw [e2]
        exact nd_repl (by rw [← e1]; exact R.nd) (by simp) (fun c hc => absurd hc (by simp))
      · rw [upd_ne (fun z => nb (by rw [z]; exact glin))]
        exact e
      · rw [e2] at hb
        rcases addr_repl hb with hb | hb
        · exact .inl (by rw [e1]; exact hb)
        · exact absurd hb (by simp)
end
end HD
end
section
set_option Elab.async false
set_option linter.all false
set_option maxRecDepth 100000
set_option maxHeartbeats 2000000
namespace HD
open PySem PySem.Spec PyProof.Rows L2
open PySem.W (Codec)
abbrev sReadPlate : Stmt := top 29
/-! ### NoPlate -/
def npF (k l : Nat) : List (Str × V) := [("kind", .int (k : Nat)), ("line", .int (l : Nat))]
structure NpT (K : PySem.W.Frag) (mg : Str → Option Value) (C N : Addr) : Prop where
  c : XC K C N
  nKind : XNo K N "kind"
  nLine : XNo K N "line"
  mC : mg "NoPlate" = some (.ref C)
  keep : PySem.W.keepIn K (.ref C) = true
def spNoPlateI (C : Addr) : Sp := fun vs H Q _ => ∃ (x : Addr) (k l : Nat), vs = [.ref x, .int (k : Nat), .int (l : Nat)] ∧ H x = some (exc C none .none x) ∧
  ∀ H' d, H' x = some (exc C (some d) .none x) → d ≠ x → H' d = some (xdc d (npF k l)) → (∀ b o, H b = some o → b ≠ x → H' b = some o) → Q .non H'
def NpD (P : Program) (w : World) (K : PySem.W.Frag) (mg : Str → Option Value) (base : Heap) (C N : Addr) : Prop :=
  ∃ f fd, NpT K mg C N ∧ PySem.W.nsIn K N "__init__" = some (some (.ref f)) ∧ PySem.W.isFn K (.ref f) = true ∧ FnOk P w K mg base CX0 1 f fd ["self", "kind", "line"] (spNoPlateI C) ∧ L2.Binds K fd ["self", "kind", "line"] []
section
variable {P : Program} {w : World} {K : PySem.W.Frag} {mg : Str → Option Value} {base : Heap} {C : Cs} {CN N : Addr}
theorem tyExc : typeOf (.type "Exception") = pure (.type "type") := by rfl
theorem scNoPlateI : FnScope ["self", "kind", "line"] ["self", "kind", "line"] (defScope sNoPlateI) := ⟨rfl, rfl, rfl, by decide +kernel, rfl, by decide +kernel, by decide +kernel⟩
theorem ok_noPlateI {f : Addr} {fd : FuncData} (F : Fun K "__init__" "NoPlate.__init__" sNoPlateI f fd) (T : NpT K mg CN N) (tE : mg "Exception" = none) (hf : PySem.W.findCls K (.type "Exception") (.type "type") "__init__" = some (.val (.builtin "Exception.__init__"))) :
    FnOk P w K mg base CX0 1 f fd ["self", "kind", "line"] (spNoPlateI CN) := by
  refine F.ok scNoPlateI (fun vs H Q E h => (by obtain ⟨x, k, l, rfl, _⟩ := h; rfl)) (fun cdv A outer s H vs Q E hr h => ?_)
  obtain ⟨x, n, l, rfl, h1, k⟩ := h
  refine ⟨_, pss_cons (ps_expr (pe_xinit (by rfl) tE hf (pa_cons (pv 0) pa_nil) tyExc (by decide +kernel) (by decide +kernel))) (pss_cons (ps_xfld1 (pv 0) (pv 1) rfl) (pss_one (ps_xfld2 (pv 0) (pv 2) rfl))), ?_⟩
  refine ⟨_, rfl, x, CN, N, _, _, rfl, h1, T.c, _, rfl, _, rfl, x, CN, N, _, rfl, h1, T.c, T.nKind, fun d hd hne => ?_⟩
  refine ⟨_, rfl, _, rfl, x, CN, N, d, _, _, rfl, (by rw [upd_ne (Ne.symm hne)]; exact upd_same), hne, upd_same, (by show 1 < 1000; decide), T.c, T.nLine, ?_⟩
  refine k _ d (by rw [upd_ne (Ne.symm hne), upd_ne (Ne.symm hne)]; exact upd_same) hne ?_ fun b o e hb => ?_
  · rw [upd_same]
    exact congrArg (fun z => some (xdc d z)) (putF_ne (by decide +kernel))
  · have hbd : b ≠ d := ne_of_none e hd
    rw [upd_ne hbd, upd_ne hbd, upd_ne hb]
    exact e
/-! ### read_plate -/
def goM : Nat → PlM → List (List Int) → Except (Nat × Nat) PlM
  | _, m, [] => .ok m
  | i, m, w :: r => match lineI w with
    | none => .error (1, i)
    | some t => if mayM m t.sort = true then goM (i + 1) (putM m t) r else .error (2, i)
def plateM (text : List Int) : Except (Nat × Nat) PlM := match goM 0 ⟨0, [], []⟩ (JM.cutI 10 text).dropLast with
  | .error e => .error e
  | .ok m => if text = [] ∨ (JM.cutI 10 text).getLastD [] ≠ [] then .error (1, (JM.cutI 10 text).dropLast.length) else if wholeM m = true then .ok m else .error (2, (JM.cutI 10 text).dropLast.length)
def spPlate (K : PySem.W.Frag) (C : Cs) (CN : Addr) : Sp := fun vs H Q E => ∃ (ap : Addr) (text : List Int), vs = [.ref ap] ∧ SqL K H ap (iv text) ∧ text.length ≤ 66000 ∧
  (∀ m, plateM text = .ok m → ∀ H' p, Same H H' → Lies H' (plN C p) → p.m = m → Q (.ref p.a) H') ∧ ∀ e, plateM text = .error e → ∀ H' d, Same H H' → H' d = some (xdc d (npF e.1 e.2)) → E (.ref CN) (some d) H'
theorem rowI_len {w l : List Int} (h : rowI w = some l) : l.length = 4 := by
  unfold rowI at h
  split at h
  · rename_i e
    unfold placesI at h
    split at h
    · rw [← Option.some.inj h, List.length_map]
      exact e
    · cases h
  · cases h
theorem lineI_row {w l : List Int} (h : lineI w = some (.row l)) : l.length = 4 := by
  unfold lineI at h
  split at h
  · cases h
  · split at h
    · cases h
    · split at h
      · cases h
      · cases e : rowI w with
        | none => rw [e] at h; cases h
        | some l' =>
          rw [e] at h
          have z : Told.row l' = .row l := Option.some.inj h
          injection z with z
          subst z
          exact rowI_len e
theorem drop_cons {α : Type} {l : List α} {i : Nat} {x : α} (h : l[i]? = some x) : l.drop i = x :: l.drop (i + 1) := by
  obtain ⟨hl, e⟩ := List.getElem?_eq_some_iff.mp h
  rw [List.drop_eq_getElem_cons hl, e]
theorem Pts.get {H : Hp} : ∀ {qs : List Addr} {L : List (List Int)} {i : Nat} {q : Addr}, Pts H qs L → qs[i]? = some q → ∃ l, L[i]? = some l ∧ H q = some (.lst (iv l))
  | _, _, _, _, .nil, h => by simp at h
  | _, _, 0, _, .cons r t, h => by
    have e := Option.some.inj h
    subst e
    exact ⟨_, rfl, r⟩
  | _, _, i + 1, q, .cons r t, h => Pts.get (i := i) t h
theorem scReadPlate : FnScope ["text", "lines", "rest", "plate", "number", "line", "told"] ["text"] (defScope sReadPlate) := ⟨rfl, rfl, rfl, by decide +kernel, rfl, by decide +kernel, by decide +kernel⟩
theorem ok_readPlate {f : Addr} {fd : FuncData} (F : Fun K "read_plate" "read_plate" sReadPlate f fd) (T : CsT K C) (tL : mg "len" = none) (tE : mg "enumerate" = none) (cL : Cn mg "LINE_END" (.int 10)) (cN : Cn mg "NO_SUCH_LINE" (.int 1)) (cW : Cn mg "WRONG_PLACE" (.int 2))
    (dC : Dn P w K mg base CX0 1 "cut" ["text", "mark"] (spCut K)) (dP : MkD P w K mg base "Plate" C.P ["side", "classes", "glimpses"]) (dN : NpD P w K mg base CN N) (dR : Dn P w K mg base CX0 5 "read_line" ["line"] (spLine K)) (dM : Dn P w K mg base CX0 3 "may_stand" ["plate", "sort"] (spMay C))
    (dU : Dn P w K mg base CX0 3 "put" ["plate", "sort", "told"] (spPut C)) (dW : Dn P w K mg base CX0 3 "has_whole_hoists" ["plate"] (spBool C wholeM)) : FnOk P w K mg base (CXf P w) 6 f fd ["text"] (spPlate K C CN) := by
  obtain ⟨uL, mL, rL⟩ := cL
  obtain ⟨uN, mN1, rN⟩ := cN
  obtain ⟨uW, mW2, rW⟩ := cW
  obtain ⟨fC, fdC, GC, mC, kC, bC⟩ := dC
  obtain ⟨fP, fdP, MP, GP, mP, bP⟩ := dP
  obtain ⟨fN, fdN, TN, iN, fnN, GN, bN⟩ := dN
  obtain ⟨fR, fdR, GR, mR, kR, bR⟩ := dR
  obtain ⟨fM, fdM, GM, mM, kM, bM⟩ := dM
  obtain ⟨fU, fdU, GU, mU, kU, bU⟩ := dU
  obtain ⟨fW, fdW, GW, mW, kW, bW⟩ := dW
  refine F.okx scReadPlate (fun vs H Q E h => (by obtain ⟨ap, text, rfl, _⟩ := h; rfl)) (fun cdv A outer s H vs Q E hr h => ?_)
  obtain ⟨ap, text, rfl, hT, hl, k1, k2⟩ := h
  have hr1 : Room 1 _ := hr.mono (by decide)
  have hr2 : Room 2 _ := hr.mono (by decide)
  have hr3 : Room 3 _ := hr.mono (by decide)
  refine ⟨_, pss_cons (ps_set (i := 1) scReadPlate.nd rfl (Or.inl rfl) (pe_call GC hr1 rfl mC kC bC .nil pass0 (pa_cons (pv 0) (pa_cons (pe_glob (by rfl) mL rL) pa_nil))))
    (pss_cons (ps_set (i := 2) scReadPlate.nd rfl (Or.inl rfl) (pe_bm0 PySem.F.plainAttrs_list PySem.F.slot_list_pop PySem.F.type_list_pop mt_pop (pv 1)))
    (pss_cons (ps_set (i := 3) scReadPlate.nd rfl (Or.inl rfl) (pe_make MP GP hr2 rfl mP bP .nil pass0 (pa_cons pe_int (pa_cons (pe_lst pa_nil) (pa_cons (pe_lst pa_nil) pa_nil)))))
    (pss_cons (ps_for (own_fly cxOf_own) rfl (pi_enum (by rfl) tE (pa_cons (pv 1) pa_nil)) (pg_tup rfl (pgs_cons (pg_name (i := 4) scReadPlate.nd rfl (Or.inl rfl)) (pgs_cons (pg_name (i := 5) scReadPlate.nd rfl (Or.inl rfl)) pgs_nil)))
      (pss_cons (ps_set (i := 6) scReadPlate.nd rfl (Or.inl rfl) (pe_call GR hr rfl mR kR bR .nil pass0 (pa_cons (pv 5) pa_nil)))
      (pss_cons (ps_if (pt_cmp (pc_isN (pv 6))) (pss_one (ps_raise hr.hd TN.c (pe_mkx TN.c iN fnN TN.keep GN hr2 rfl TN.mC bN .nil pass0 (pa_cons (pe_glob (by rfl) mN1 rN) (pa_cons (pv 4) pa_nil))))) pss_nil)
      (pss_cons (ps_if (pt_not (pt_val (pe_call GM hr3 rfl mM kM bM .nil pass0 (pa_cons (pv 3) (pa_cons (pe_ix ix_tup (pv 6) pe_int (fun _ _ => rfl)) pa_nil))))) (pss_one (ps_raise hr.hd TN.c (pe_mkx TN.c iN fnN TN.keep GN hr2 rfl TN.mC bN .nil pass0 (pa_cons (pe_glob (by rfl) mW2 rW) (pa_cons (pv 4) pa_nil))))) pss_nil)
      (pss_one (ps_expr (pe_call GU hr3 rfl mU kU bU .nil pass0 (pa_cons (pv 3) (pa_cons (pe_ix ix_tup (pv 6) pe_int (fun _ _ => rfl)) (pa_cons (pe_ix ix_tup (pv 6) pe_int (fun _ _ => rfl)) pa_nil))))))))))
    (pss_cons (ps_if (PW.pt (pw_or (pt_cmpR (op_eq0 hr.units) (pv 0) (pe_lst pa_nil) (nomark _)) (pw_or1 (pt_cmpR (op_ne0 hr.units) (pv 2) (pe_lst pa_nil) (nomark _)))))
      (pss_one (ps_raise hr.hd TN.c (pe_mkx TN.c iN fnN TN.keep GN hr2 rfl TN.mC bN .nil pass0 (pa_cons (pe_glob (by rfl) mN1 rN) (pa_cons (pe_callB call_len_seq (by rfl) tL PySem.boot_len (pa_cons (pv 1) pa_nil)) pa_nil))))) pss_nil)
    (pss_cons (ps_if (pt_not (pt_val (pe_call GW hr3 rfl mW kW bW .nil pass0 (pa_cons (pv 3) pa_nil))))
      (pss_one (ps_raise hr.hd TN.c (pe_mkx TN.c iN fnN TN.keep GN hr2 rfl TN.mC bN .nil pass0 (pa_cons (pe_glob (by rfl) mW2 rW) (pa_cons (pe_callB call_len_seq (by rfl) tL PySem.boot_len (pa_cons (pv 1) pa_nil)) pa_nil))))) pss_nil)
    (pss_one (ps_ret (pv 3)))))))), ?_⟩
  refine ⟨_, rfl, ap, 10, text, rfl, hT, Nat.le_trans hl (by decide), fun H1 pl qs hN hp nd np hf => ?_⟩
  obtain ⟨qs', qr, rfl, hp', hr'⟩ := Pts.last hp (JM.cutI_ne 10 text)
  have s1 := hN.1
  refine ⟨_, rfl, .inl ⟨rfl, _, SqL.of hN.2.2⟩, pl, _, V.ref qr, rfl, rfl, hN.2.2, ?_, ?_⟩
  · rw [List.map_append]
    simp
  have eL : (((qs' ++ [qr]).map V.ref).dropLast) = qs'.map V.ref := by rw [List.map_append]; simp
  rw [eL]
  have np1 : pl ∉ qs' := fun z => np (List.mem_append_left _ z)
  have npr : qr ≠ pl := fun z => np (by rw [← z]; simp)
  generalize hL : (JM.cutI 10 text).dropLast = L at hp'
  generalize hRest : (JM.cutI 10 text).getLastD [] = rst at hr'
  -- the heap ahead of the plate
  have sb : Same H (upd H1 pl (.lst (qs'.map V.ref))) := same_upd2 s1 hN.2.1
  have ptb : Pts (upd H1 pl (.lst (qs'.map V.ref))) qs' L := Pts.upd hp' np1
  have rb : (upd H1 pl (.lst (qs'.map V.ref))) qr = some (.lst (iv rst)) := by rw [upd_ne npr]; exact hr'
  have lb : (upd H1 pl (.lst (qs'.map V.ref))) pl = some (.lst (qs'.map V.ref)) := upd_same
  generalize (upd H1 pl (.lst (qs'.map V.ref))) = Hb at sb ptb rb lb
  have lenL : L.length ≤ 66000 := by
    rw [← hL, List.length_dropLast]
    have := cut_len 10 text
    omega
  have lenQ : qs'.length = L.length := ptb.len
  have wlen : ∀ w ∈ L, w.length ≤ 100000 := fun w hw => by
    have := cut_part 10 text w (by rw [← hL] at hw; exact List.dropLast_subset _ hw)
    omega
  have pM : plateM text = match goM 0 ⟨0, [], []⟩ L with
      | .error e => .error e
      | .ok m => if text = [] ∨ rst ≠ [] then .error (1, L.length) else if wholeM m = true then .ok m else .error (2, L.length) := by
    unfold plateM
    rw [hL, hRest]
  -- a refusal
  have boom : ∀ (kk ll : Nat) (Hx : Hp), plateM text = .error (kk, ll) → Same H Hx → ([V.int (kk : Nat), V.int (ll : Nat)] : List V).length ≤ sizeLine ∧ ∀ x, Hx x = none →
      spNoPlateI CN (V.ref x :: ([V.int (kk : Nat), V.int (ll : Nat)] ++ [])) (upd Hx x (exc CN none .none x)) (fun v H2 => v = .non ∧ ∃ a od, V.ref x = V.ref a ∧ H2 a = some (exc CN od .none a) ∧ (∀ d, od = some d → d ≠ a) ∧ E (.ref CN) od H2) E0 := fun kk ll Hx e sx =>
    ⟨(by show 2 ≤ sizeLine; decide), fun x hx => ⟨x, kk, ll, rfl, upd_same, fun H5 d h1 hne h2 kp => ⟨rfl, x, some d, rfl, h1, fun d' e' => (by cases e'; exact hne), k2 _ e H5 d (fun b o eb => kp b o (by rw [upd_ne (ne_of_none (sx _ _ eb) hx)]; exact sx _ _ eb) (ne_of_none (sx _ _ eb) hx)) h2⟩⟩⟩
  refine ⟨Nat.zero_le _, fun l1 hl1 => ⟨Nat.zero_le _, fun l2 hl2 => ?_⟩⟩
  intro x dx hx hdx hxd
  refine ⟨x, dx, _, rfl, rfl, upd_same, fun H4 h4 k4 => ⟨rfl, ?_⟩⟩
  have t1 : Same Hb (upd Hb l1 (.lst [])) := same_upd hl1
  have t2 : Same Hb (upd (upd Hb l1 (.lst [])) l2 (.lst [])) := same_upd2 t1 (t1.free hl2)
  have t4 : Same (upd (upd Hb l1 (.lst [])) l2 (.lst [])) H4 := Same.made hx hdx k4
  have t5 := t2.trans t4
  have n12 : l1 ≠ l2 := fun z => by rw [← z, upd_same] at hl2; cases hl2
  have nx2 : l2 ≠ x := fun z => by rw [← z, upd_same] at hx; cases hx
  have nx1 : l1 ≠ x := fun z => by rw [← z, upd_ne n12, upd_same] at hx; cases hx
  have R0 : Rep C H4 ⟨x, dx, l1, l2, 0, [], []⟩ := by
    refine ⟨fun y hy => ?_, ?_⟩
    · have hy : y ∈ [(x, HO.ins C.P dx (plF ⟨x, dx, l1, l2, 0, [], []⟩)), (l1, HO.lst []), (l2, HO.lst [])] := hy
      rcases List.mem_cons.mp hy with rfl | hy
      · exact h4
      · rcases List.mem_cons.mp hy with rfl | hy
        · exact t4 _ _ (by rw [upd_ne n12]; exact upd_same)
        · obtain rfl := List.mem_singleton.mp hy
          exact t4 _ _ upd_same
    · show ([x, l1, l2] : List Addr).Nodup
      simp [Ne.symm nx1, Ne.symm nx2, n12]
  have F0 : ∀ b, b ∈ (plN C ⟨x, dx, l1, l2, 0, [], []⟩).map (·.1) → Hb b = none := fun b hb => by
    have hb : b = x ∨ b = l1 ∨ b = l2 := by simpa [plN] using hb
    rcases hb with rfl | rfl | rfl
    · exact t2.free hx
    · exact hl1
    · exact t1.free hl2
  refine ⟨_, rfl, pl, _, rfl, SqL.of (t5 _ _ lb), for_enum (K := K) (a := pl) (xs := qs'.map V.ref)
    (fun i σ H' => ∃ (p : PlA) (v4 v5 v6 : Option V), σ = [some (.ref ap), some (.ref pl), some (.ref qr), some (.ref x), v4, v5, v6] ∧ Same Hb H' ∧ Rep C H' p ∧ p.a = x ∧ (∀ b, b ∈ (plN C p).map (·.1) → Hb b = none) ∧ goM 0 ⟨0, [], []⟩ L = goM i p.m (L.drop i))
    ⟨⟨x, dx, l1, l2, 0, [], []⟩, none, none, none, rfl, t5, R0, rfl, F0, rfl⟩ (fun i σ H' _ ⟨_, _, _, _, _, sx, _⟩ => SqL.of (sx _ _ lb)) ?_ ?_⟩
  · rintro i y TT σ H' hi ⟨p, v4, v5, v6, rfl, sx, R, hpa, hfr, hgo⟩ hTT
    obtain ⟨q, hq, rfl⟩ : ∃ q, qs'[i]? = some q ∧ y = V.ref q := by
      rw [List.getElem?_map] at hi
      cases e : qs'[i]? with
      | none => rw [e] at hi; cases hi
      | some z => rw [e] at hi; exact ⟨z, rfl, (Option.some.inj hi).symm⟩
    obtain ⟨wd, hw, hqw⟩ := Pts.get ptb hq
    have sT := same_upd2 (o := .tup [.int (i : Nat), .ref q]) sx (sx.free hTT)
    have sTT : Same H' (upd H' TT (.tup [.int (i : Nat), .ref q])) := same_upd hTT
    rw [drop_cons hw] at hgo
    refine ⟨TT, _, rfl, SqT.of upd_same, rfl, _, _, rfl, _, _, rfl, rfl, _, rfl, q, wd, rfl, SqL.of (sT _ _ hqw), wlen wd (List.mem_of_getElem? hw), fun H3 v s3 hLn => ?_⟩
    have s3b := sT.trans s3
    have s3H := sb.trans s3b
    cases eln : lineI wd with
    | none =>
      rw [eln] at hLn
      obtain rfl : v = .non := hLn
      have er : plateM text = .error (1, i) := by
        rw [pM, hgo]
        unfold goM
        rw [eln]
      exact ⟨_, rfl, _, rfl, ite_yes rfl ⟨_, rfl, boom 1 i H3 er s3H⟩⟩
    | some t =>
      rw [eln] at hLn
      obtain ⟨q2, y2, rfl, hq2, hq2', ta⟩ := hLn
      have L3 : Lies H3 (plN C p) := R.lies.same (sTT.trans s3)
      refine ⟨_, rfl, _, rfl, ite_no (by intro z; cases z) ⟨_, rfl, _, rfl, q2, _, 0, _, rfl, rfl, SqT.of hq2', rfl, p, t.sort, (by rw [hpa]; rfl), L3, fun H5 s5 => ⟨_, rfl, ?_⟩⟩⟩
      have s5b := s3b.trans s5
      have s5H := sb.trans s5b
      show if (!mayM p.m t.sort) = true then _ else _
      refine ite2 (fun hm => ?_) (fun hm => ?_)
      · have hm : mayM p.m t.sort = false := by simpa using hm
        have er : plateM text = .error (2, i) := by
          rw [pM, hgo]
          unfold goM
          rw [eln]
          dsimp only
          rw [if_neg (by rw [hm]; exact Bool.false_ne_true)]
        exact ⟨_, rfl, boom 2 i H5 er s5H⟩
      · have hm : mayM p.m t.sort = true := by simpa using hm
        have R5 : Rep C H5 p := ⟨L3.same s5, R.nd⟩
        refine ⟨_, rfl, _, rfl, q2, _, 0, _, rfl, rfl, SqT.of (s5 _ _ hq2'), rfl, _, rfl, q2, _, 1, _, rfl, rfl, SqT.of (s5 _ _ hq2'), rfl, p, t, y2, upd H' TT (.tup [.int (i : Nat), .ref q]), (by rw [hpa]; rfl), R5, s3.trans s5, R.lies.same sTT, ta.same s5,
          fun l e => lineI_row (by rw [eln, e]), hm, fun H6 p' e1 e2 R6 kf kn => ?_⟩
        refine ⟨p', _, _, _, rfl, fun b o eb => kf b o (s5b _ _ eb) (fun z => by rw [hfr b z] at eb; cases eb), R6, e1.trans hpa, fun b hb => ?_, ?_⟩
        · rcases kn b hb with z | z
          · exact hfr b z
          · exact sT.free z
        · rw [hgo, e2]
          show goM i p.m (wd :: L.drop (i + 1)) = _
          rw [show goM i p.m (wd :: L.drop (i + 1)) = (match lineI wd with
            | none => .error (1, i)
            | some t => if mayM p.m t.sort = true then goM (i + 1) (putM p.m t) (L.drop (i + 1)) else .error (2, i)) from rfl, eln]
          dsimp only
          rw [if_pos hm]
  · rintro σ H' ⟨p, v4, v5, v6, rfl, sx, R, hpa, hfr, hgo⟩
    have sH := sb.trans sx
    rw [List.length_map, lenQ, List.drop_length] at hgo
    have hgo : goM 0 ⟨0, [], []⟩ L = .ok p.m := hgo
    rw [hgo] at pM
    dsimp only at pM
    have lenV : (((qs'.map V.ref).length : Nat) : Int) = ((L.length : Nat) : Int) := by rw [List.length_map, lenQ]
    refine ⟨_, rfl, Nat.zero_le _, fun e1 n1 => ?_⟩
    have s1' := same_upd2 (o := .lst []) sH (sH.free n1)
    have s1b := same_upd2 (o := .lst []) sx (sx.free n1)
    refine ⟨ap, e1, _, rfl, rfl, s1'.seq hT, SqL.of upd_same, _, rfl, ite2 (fun hc => ?_) (fun hc => ?_)⟩
    · have hc : text = [] := by
        cases text with
        | nil => rfl
        | cons a b => cases hc
      have er : plateM text = .error (1, L.length) := by rw [pM, if_pos (.inl hc)]
      refine ⟨_, rfl, pl, _, rfl, .inl (SqL.of (s1b _ _ lb)), ?_⟩
      rw [lenV]
      exact boom 1 L.length _ er s1'
    · have hc : ¬ text = [] := fun z => hc (by rw [z]; rfl)
      refine ⟨_, rfl, Nat.zero_le _, fun e2 n2 => ?_⟩
      have s2' := same_upd2 (o := .lst []) s1' (s1'.free n2)
      have s2b := same_upd2 (o := .lst []) s1b (s1b.free n2)
      refine ⟨qr, e2, _, rfl, rfl, SqL.of (s2b _ _ rb), SqL.of upd_same, _, rfl, ite2 (fun hd => ?_) (fun hd => ?_)⟩
      · have hd : rst ≠ [] := fun z => by rw [z] at hd; exact absurd hd (by decide)
        have er : plateM text = .error (1, L.length) := by rw [pM, if_pos (.inr hd)]
        refine ⟨_, rfl, pl, _, rfl, .inl (SqL.of (s2b _ _ lb)), ?_⟩
        rw [lenV]
        exact boom 1 L.length _ er s2'
      · have hd : rst = [] := by
          cases rst with
          | nil => rfl
          | cons a b => exact absurd rfl hd
        have hno : ¬ (text = [] ∨ rst ≠ []) := fun z => z.elim hc (fun z => z hd)
        rw [if_neg hno] at pM
        have Lx : Lies _ (plN C p) := (R.lies.same (same_upd (o := .lst []) n1)).same (same_upd (o := .lst []) n2)
        refine ⟨_, rfl, p, (by rw [hpa]; rfl), Lx, fun H3 s3 => ⟨_, rfl, ?_⟩⟩
        show if (!wholeM p.m) = true then _ else _
        refine ite2 (fun hw => ?_) (fun hw => ?_)
        · have hw : wholeM p.m = false := by simpa using hw
          have er : plateM text = .error (2, L.length) := by rw [pM, hw]; rfl
          refine ⟨_, rfl, pl, _, rfl, .inl (SqL.of (s3 _ _ (s2b _ _ lb))), ?_⟩
          rw [lenV]
          exact boom 2 L.length _ er (s2'.trans s3)
        · have hw : wholeM p.m = true := by simpa using hw
          rw [if_pos hw] at pM
          refine ⟨_, rfl, ?_⟩
          have q := k1 p.m pM H3 p (s2'.trans s3) (Lx.same s3) rfl
          rw [hpa] at q
          exact q
end
end HD
end
section
set_option Elab.async false
set_option linter.all false
set_option maxRecDepth 100000
set_option maxHeartbeats 2000000
namespace HD
open PySem PySem.Spec PyProof.Rows L2
open PySem.W (Codec)
abbrev sJudge : Stmt := top 39
def judgeO (ns : List Int) : List Int := if 65536 < ns.length then [-2] else match plateM ns with
  | .error e => [-8, (e.1 : Nat), (e.2 : Nat)]
  | .ok m => [(m.glimpses.length : Nat)]
def spJudge (K : PySem.W.Frag) : Sp := fun vs H Q _ => ∃ (a : Addr) (ns : List Int), vs = [.ref a] ∧ SqL K H a (iv ns) ∧ ns.length ≤ 66000 ∧ ∀ H' q, H' q = some (.lst (iv (judgeO ns))) → Q (.ref q) H'
section
variable {P : Program} {w : World} {K : PySem.W.Frag} {mg : Str → Option Value} {base : Heap} {C : Cs} {CN N : Addr}
theorem npF_kind (k l : Nat) : (npF k l).lookup ("kind" : Str) = some (.int (k : Nat)) := lk_eq
theorem npF_line (k l : Nat) : (npF k l).lookup ("line" : Str) = some (.int (l : Nat)) := (lk_ne (by decide +kernel)).trans lk_eq
theorem scJudge : FnScope ["p", "plate", "fault"] ["p"] (defScope sJudge) := ⟨rfl, rfl, rfl, by decide +kernel, rfl, by decide +kernel, by decide +kernel⟩
theorem ok_judge {f : Addr} {fd : FuncData} (F : Fun K "judge" "judge" sJudge f fd) (T : CsT K C) (TN : NpT K mg CN N) (tL : mg "len" = none) (cM : Cn mg "MOST_BYTES" (.int 65536)) (dR : Dn P w K mg base (CXf P w) 6 "read_plate" ["text"] (spPlate K C CN)) :
    FnOk P w K mg base CX0 7 f fd ["p"] (spJudge K) := by
  obtain ⟨uM, mM, rM⟩ := cM
  obtain ⟨fR, fdR, GR, mR, kR, bR⟩ := dR
  refine F.ok scJudge (fun vs H Q E h => (by obtain ⟨a, ns, rfl, _⟩ := h; rfl)) (fun cdv A outer s H vs Q E hr h => ?_)
  obtain ⟨a, ns, rfl, hS, hl, k⟩ := h
  refine ⟨_, pss_cons (ps_if (pt_cmpR op_gt (pe_callB call_len_seq (by rfl) tL PySem.boot_len (pa_cons (pv 0) pa_nil)) (pe_glob (by rfl) mM rM) (nomark _)) (pss_one (ps_ret (pe_lst (pa_cons (pe_un un_neg pe_int) pa_nil)))) pss_nil)
    (pss_cons (ps_try ⟨rfl, rfl⟩ (psx_call (i := 1) scJudge.nd rfl (Or.inl rfl) GR hr rfl mR kR bR (pa_cons (pv 0) pa_nil))
      (ph_consN (i := 2) (ts := tRet (tLst (tCons (tUn (rU fun i => .int (-i)) (tC (.int 8))) (tCons (tXfld K (tVar 2) "kind") (tCons (tXfld K (tVar 2) "line") tNil))))) TN.c rfl TN.mC scJudge.nd rfl rfl (fun _ => pss_one (ps_ret (pe_lst (pa_cons (pe_un un_neg pe_int) (pa_cons (pe_xfld (pv 2) rfl) (pa_cons (pe_xfld (pv 2) rfl) pa_nil)))))) ph_nil))
    (pss_one (ps_ret (pe_lst (pa_cons (pe_callB call_len_seq (by rfl) tL PySem.boot_len (pa_cons (pe_fld (pv 1) rfl) pa_nil)) pa_nil))))), ?_⟩
  refine ⟨_, rfl, a, _, rfl, .inl hS, _, _, rfl, rfl, _, rfl, ?_⟩
  rw [iv_len]
  refine ite2 (fun hc => ?_) (fun hc => ?_)
  · have hc : 65536 < ns.length := by
      have : (65536 : Int) < ((ns.length : Nat) : Int) := by simpa using hc
      omega
    refine ⟨_, rfl, (by show 1 ≤ sizeLine; decide), fun q hq => k _ q ?_⟩
    rw [upd_same]
    unfold judgeO
    rw [if_pos hc]
    rfl
  · have hc : ¬ 65536 < ns.length := fun z => hc (by
      have : (65536 : Int) < ((ns.length : Nat) : Int) := by omega
      simpa using this)
    refine ⟨_, rfl, a, ns, rfl, hS, hl, fun m em H' p s1 L1 hm => ?_, fun e em H' d s1 hd => ?_⟩
    · refine ⟨_, rfl, p.a, C.P, p.dx, _, _, rfl, L1.pl, T.cP, T.nGlimpses, plF_glimpses p, p.gl, _, rfl, .inl (SqL.of L1.gl), (by show 1 ≤ sizeLine; decide), fun q hq => k _ q ?_⟩
      rw [upd_same]
      unfold judgeO
      rw [if_neg hc, em]
      dsimp only
      rw [← hm]
      have : (p.glimpses.map fun g => V.ref g.a).length = p.m.glimpses.length := by
        unfold PlA.m
        simp only [List.length_map]
      rw [this]
      rfl
    · refine ⟨CN, N, rfl, TN.c, fun x H2 hdx fl => ⟨fun _ H3 fl3 => ?_, fun z => absurd rfl z⟩⟩
      obtain ⟨T', h1, kp, h2, h3, h4⟩ := fl3
      have hdx := hdx d rfl
      have hd3 := kp d _ hd hdx
      refine ⟨_, rfl, _, rfl, x, CN, N, d, _, _, _, rfl, h1, hdx, hd3, TN.c, TN.nKind, npF_kind _ _, _, rfl, x, CN, N, d, _, _, _, rfl, h1, hdx, hd3, TN.c, TN.nLine, npF_line _ _, (by show 3 ≤ sizeLine; decide), fun q hq => k _ q ?_⟩
      rw [upd_same]
      unfold judgeO
      rw [if_neg hc, em]
      rfl
end
end HD
end
section
set_option Elab.async false
set_option linter.all false
set_option maxRecDepth 100000
set_option maxHeartbeats 2000000
namespace HD
open L2
/-! ### the plate's reckoning and its counts -/
theorem among_some (ws : List (List Int)) (w : List Int) : (amongI ws w).isSome = ws.contains w := by
  unfold amongI
  rw [List.findIdx?_isSome, List.contains_eq_any_beq]
  congr 1
  funext x
  by_cases h : x = w
  · subst h; simp
  · have h2 : ¬ w = x := fun z => h z.symm
    rw [decide_eq_false h]
    exact (beq_eq_false_iff_ne.mpr h2).symm
theorem places_some (s w : List Int) : (placesI s w).isSome = w.all s.contains := by
  unfold placesI
  split
  · rename_i h
    rw [show w.all s.contains = true from h]
    rfl
  · rename_i h
    have : w.all s.contains = false := by
      cases e : w.all s.contains with
      | false => rfl
      | true => exact absurd e h
    rw [this]
    rfl
theorem colours_some (w : List Int) : (coloursI w).isSome = (w.length == 16 && w.all JM.hexs.contains) := by
  unfold coloursI
  split
  · rename_i h
    rw [places_some, h]
    rfl
  · rename_i h
    have : (w.length == 16) = false := beq_eq_false_iff_ne.mpr h
    rw [this]
    rfl
theorem colours_len {w l : List Int} (h : coloursI w = some l) : l.length = 16 := by
  unfold coloursI at h
  split at h
  · rename_i e
    unfold placesI at h
    split at h
    · rw [← Option.some.inj h, List.length_map]
      exact e
    · cases h
  · cases h
theorem row_some (w : List Int) : (rowI w).isSome = JM.rowOk w := by
  unfold rowI JM.rowOk
  split
  · rename_i h
    rw [places_some, h]
    rfl
  · rename_i h
    have : (w.length == 4) = false := beq_eq_false_iff_ne.mpr h
    rw [this]
    rfl
theorem side_some (w : List Int) : (sideI w).isSome = JM.sideOk w := by
  unfold sideI JM.sideOk
  generalize JM.cutI 32 w = L
  match L with
  | [] => rfl
  | [_] => rfl
  | [_, _] => rfl
  | _ :: _ :: _ :: _ :: _ => rfl
  | [a, b, c] =>
    show (if a = JM.wSeen then (match amongI JM.sides3 b, coloursI c with
      | some s, some l => some (s, l)
      | _, _ => none) else none).isSome = (a == JM.wSeen && (JM.sides3.contains b && (c.length == 16 && c.all JM.hexs.contains)))
    rw [← among_some, ← colours_some]
    by_cases h : a = JM.wSeen
    · rw [if_pos h, h]
      show _ = ((JM.wSeen == JM.wSeen) && _)
      rw [show (JM.wSeen == JM.wSeen) = true by decide, Bool.true_and]
      cases amongI JM.sides3 b with
      | none => rfl
      | some s =>
        cases coloursI c with
        | none => rfl
        | some l => rfl
    · rw [if_neg h, show (a == JM.wSeen) = false from beq_eq_false_iff_ne.mpr h]
      rfl
theorem side_len {w l : List Int} {s : Nat} (h : sideI w = some (s, l)) : l.length = 16 := by
  unfold sideI at h
  split at h
  · split at h
    · split at h
      · rename_i s' l' e1 e2
        have z : (s', l') = (s, l) := Option.some.inj h
        injection z with z1 z2
        subst z2
        exact colours_len e2
      · cases h
    · cases h
  · cases h
theorem sort_eq (w : List Int) : JM.sortI w = (lineI w).map Told.sort := by
  unfold JM.sortI lineI
  rw [← side_some, ← among_some, ← among_some, ← row_some]
  cases sideI w with
  | some x => rfl
  | none =>
    cases amongI JM.hoists4 w with
    | some x => rfl
    | none =>
      cases amongI JM.shapes4 w with
      | some x => rfl
      | none =>
        cases rowI w with
        | some x => rfl
        | none => rfl
structure Sim (m : PlM) (s : JM.Sti) : Prop where
  hd : s.hd = !m.classes.isEmpty
  n : s.n = m.glimpses.length
  f : ∀ g, m.glimpses.getLast? = some g → s.f = g.flags.length
  c : ∀ g x, m.glimpses.getLast? = some g → g.flags.getLast? = some x → s.c = x.2.length
theorem sim0 : Sim ⟨0, [], []⟩ ⟨false, 0, 0, 0⟩ := ⟨rfl, rfl, fun g h => (by cases h), fun g x h => (by cases h)⟩
theorem lastc {α : Type} (l : List α) : (l.getLast? = none ∧ l.length = 0) ∨ ∃ x, l.getLast? = some x ∧ l.length ≠ 0 := by
  cases e : l.getLast? with
  | none => exact .inl ⟨rfl, by rw [List.getLast?_eq_none_iff.mp e]; rfl⟩
  | some x => exact .inr ⟨x, rfl, fun z => by rw [List.length_eq_zero_iff.mp z] at e; cases e⟩
theorem sim_lf {m : PlM} {s : JM.Sti} (r : Sim m s) : JM.lacksF s = lacksFM m := by
  unfold JM.lacksF lacksFM
  rcases lastc m.glimpses with ⟨e, l⟩ | ⟨g, e, l⟩
  · rw [r.n, l, e]
    rfl
  · rw [r.n, e, r.f g e]
    dsimp only
    rw [decide_eq_true l, Bool.true_and]
    cases g.flags <;> simp
theorem sim_lc {m : PlM} {s : JM.Sti} (r : Sim m s) : JM.lacksC s = lacksCM m := by
  unfold JM.lacksC
  rw [sim_lf r]
  unfold lacksFM lacksCM
  rcases lastc m.glimpses with ⟨e, l⟩ | ⟨g, e, l⟩
  · rw [r.n, l, e]
    rfl
  · rw [e]
    dsimp only
    rcases lastc g.flags with ⟨e2, l2⟩ | ⟨x, e2, l2⟩
    · rw [e2, if_pos (.inr (by rw [List.length_eq_zero_iff.mp l2]; rfl))]
    · rw [e2, if_neg (fun z => by
        rcases z with z | z
        · exact l (by rw [← r.n]; exact z)
        · cases h : g.flags with
          | nil => exact l2 (by rw [h]; rfl)
          | cons a b => rw [h] at z; cases z), r.c g x e e2]
theorem sim_may {m : PlM} {s : JM.Sti} (r : Sim m s) {k : Nat} (hk : k ≤ 3) : JM.mayI s k = mayM m k := by
  have last : (decide (m.glimpses.length ≠ 0) && decide (s.f < 8)) = (match m.glimpses.getLast? with
      | some g => decide (g.flags.length < 8)
      | none => false) := by
    rcases lastc m.glimpses with ⟨e, l⟩ | ⟨g, e, l⟩
    · rw [e, l]
      rfl
    · rw [e, r.f g e]
      dsimp only
      rw [decide_eq_true l, Bool.true_and]
  unfold JM.mayI mayM
  rw [sim_lf r, sim_lc r, r.hd, r.n, last]
  have : k = 0 ∨ k = 1 ∨ k = 2 ∨ k = 3 := by omega
  rcases this with rfl | rfl | rfl | rfl <;> cases m.classes.isEmpty <;> cases lacksCM m <;> cases lacksFM m <;> rfl
theorem sort_le (t : Told) : t.sort ≤ 3 := by cases t <;> simp [Told.sort]
theorem last_snoc {α : Type} (l : List α) (x : α) : (l ++ [x]).getLast? = some x := by
  rw [List.getLast?_append, List.getLast?_singleton]
  rfl
theorem sim_put {m : PlM} {s : JM.Sti} (r : Sim m s) {w : List Int} {t : Told} (hw : lineI w = some t) (may : mayM m t.sort = true) : Sim (putM m t) (JM.putI s t.sort) := by
  cases t with
  | side a l =>
    have hl : l.length = 16 := by
      unfold lineI at hw
      cases e : sideI w with
      | some p =>
        rw [e] at hw
        have z : Told.side p.1 p.2 = .side a l := Option.some.inj hw
        injection z with z1 z2
        subst z2
        exact side_len (s := p.1) e
      | none =>
        rw [e] at hw
        dsimp only at hw
        split at hw
        · cases hw
        · split at hw
          · cases hw
          · cases e2 : rowI w with
            | none => rw [e2] at hw; cases hw
            | some l' => rw [e2] at hw; cases hw
    refine ⟨?_, r.n, r.f, r.c⟩
    show true = !l.isEmpty
    cases l with
    | nil => cases hl
    | cons x y => rfl
  | hoist k =>
    refine ⟨r.hd, ?_, fun g h => ?_, fun g x h h2 => ?_⟩
    · show s.n + 1 = (m.glimpses ++ [_]).length
      rw [List.length_append, r.n]
      rfl
    · have h : (m.glimpses ++ [(⟨decide (k % 2 = 1), decide (k / 2 = 1), []⟩ : GlM)]).getLast? = some g := h
      rw [last_snoc] at h
      rw [← Option.some.inj h]
      rfl
    · have h : (m.glimpses ++ [(⟨decide (k % 2 = 1), decide (k / 2 = 1), []⟩ : GlM)]).getLast? = some g := h
      rw [last_snoc] at h
      rw [← Option.some.inj h] at h2
      cases h2
  | shape k =>
    obtain ⟨g, e, _⟩ := may2 may
    have ep : (putM m (.shape k)).glimpses = m.glimpses.dropLast ++ [⟨g.above, g.below, g.flags ++ [(k, [])]⟩] := by
      show m.glimpses.dropLast ++ (m.glimpses.getLast?.map _).toList = _
      rw [e]
      rfl
    have el : m.glimpses.length ≠ 0 := fun z => by rw [List.length_eq_zero_iff.mp z] at e; cases e
    refine ⟨r.hd, ?_, fun g' h => ?_, fun g' x h h2 => ?_⟩
    · rw [ep, List.length_append, List.length_dropLast]
      show s.n = _ + 1
      rw [r.n]
      omega
    · rw [ep, last_snoc] at h
      rw [← Option.some.inj h]
      show s.f + 1 = (g.flags ++ [(k, [])]).length
      rw [List.length_append, r.f g e]
      rfl
    · rw [ep, last_snoc] at h
      rw [← Option.some.inj h] at h2
      have h2 : (g.flags ++ [(k, [])]).getLast? = some x := h2
      rw [last_snoc] at h2
      rw [← Option.some.inj h2]
      rfl
  | row l =>
    obtain ⟨g, x, e, e2, _⟩ := may3 may
    have hl := lineI_row hw
    have ep : (putM m (.row l)).glimpses = m.glimpses.dropLast ++ [⟨g.above, g.below, g.flags.dropLast ++ [(x.1, x.2 ++ l)]⟩] := by
      show m.glimpses.dropLast ++ (m.glimpses.getLast?.map _).toList = _
      rw [e]
      show m.glimpses.dropLast ++ [(⟨g.above, g.below, g.flags.dropLast ++ (g.flags.getLast?.map fun s => (s.1, s.2 ++ l)).toList⟩ : GlM)] = _
      rw [e2]
      rfl
    have el : m.glimpses.length ≠ 0 := fun z => by rw [List.length_eq_zero_iff.mp z] at e; cases e
    have el2 : g.flags.length ≠ 0 := fun z => by rw [List.length_eq_zero_iff.mp z] at e2; cases e2
    refine ⟨r.hd, ?_, fun g' h => ?_, fun g' y h h2 => ?_⟩
    · rw [ep, List.length_append, List.length_dropLast]
      show s.n = _ + 1
      rw [r.n]
      omega
    · rw [ep, last_snoc] at h
      rw [← Option.some.inj h]
      show s.f = (g.flags.dropLast ++ [(x.1, x.2 ++ l)]).length
      rw [List.length_append, List.length_dropLast, r.f g e]
      show _ = _ + 1
      omega
    · rw [ep, last_snoc] at h
      rw [← Option.some.inj h] at h2
      have h2 : (g.flags.dropLast ++ [(x.1, x.2 ++ l)]).getLast? = some y := h2
      rw [last_snoc] at h2
      rw [← Option.some.inj h2]
      show s.c + 4 = (x.2 ++ l).length
      rw [List.length_append, hl, r.c g x e e2]
def SimE : Except (Nat × Nat) PlM → Except (Nat × Nat) JM.Sti → Prop
  | .error e, .error e' => e = e'
  | .ok m, .ok s => Sim m s
  | _, _ => False
theorem sim_go : ∀ (L : List (List Int)) (i : Nat) (m : PlM) (s : JM.Sti), Sim m s → SimE (goM i m L) (JM.goI i s L)
  | [], i, m, s, r => r
  | w :: L, i, m, s, r => by
    unfold goM JM.goI
    rw [sort_eq]
    cases e : lineI w with
    | none => rfl
    | some t =>
      show SimE (if mayM m t.sort = true then goM (i + 1) (putM m t) L else .error (2, i)) (if JM.mayI s t.sort = true then JM.goI (i + 1) (JM.putI s t.sort) L else .error (2, i))
      rw [sim_may r (sort_le t)]
      by_cases h : mayM m t.sort = true
      · rw [if_pos h, if_pos h]
        exact sim_go L (i + 1) _ _ (sim_put r e h)
      · rw [if_neg h, if_neg h]
        rfl
theorem sim_whole {m : PlM} {s : JM.Sti} (r : Sim m s) : JM.wholeI s = wholeM m := by
  unfold JM.wholeI wholeM
  rw [sim_lf r, sim_lc r, r.n]
  congr 1
  cases m.glimpses <;> simp
theorem judge_due {ns : List Int} (h : JM.In8 ns) : judgeO ns = PyWqbada.judge ns := by
  unfold judgeO
  by_cases hl : 65536 < ns.length
  · rw [if_pos hl, JM.judge_long h hl]
  · rw [if_neg hl, JM.judge_eq h (by omega)]
    unfold plateM JM.judgeI
    dsimp only
    have q := sim_go (JM.cutI 10 ns).dropLast 0 _ _ sim0
    cases e1 : goM 0 ⟨0, [], []⟩ (JM.cutI 10 ns).dropLast with
    | error e =>
      cases e2 : JM.goI 0 ⟨false, 0, 0, 0⟩ (JM.cutI 10 ns).dropLast with
      | error e' =>
        rw [e1, e2] at q
        have q : e = e' := q
        subst q
        rfl
      | ok s => rw [e1, e2] at q; exact q.elim
    | ok m =>
      cases e2 : JM.goI 0 ⟨false, 0, 0, 0⟩ (JM.cutI 10 ns).dropLast with
      | error e' => rw [e1, e2] at q; exact q.elim
      | ok s =>
        rw [e1, e2] at q
        have q : Sim m s := q
        dsimp only
        by_cases hc : ns = [] ∨ (JM.cutI 10 ns).getLastD [] ≠ []
        · rw [if_pos hc, if_pos hc]
          rfl
        · rw [if_neg hc, if_neg hc, sim_whole q]
          by_cases hw : wholeM m = true
          · rw [if_pos hw, if_pos hw, q.n]
          · rw [if_neg hw, if_neg hw]
            rfl
end HD
end
section
set_option Elab.async false
set_option linter.all false
set_option maxRecDepth 100000
set_option maxHeartbeats 2000000
namespace HD
open PySem PySem.Spec PyProof.Rows L2
open PySem.W (Codec)
theorem noKind : typeLookup (.type "Exception") ("kind" : Str) = pure none := by rw [typeLookup_type, builtinLookup_eq_fast]; kernel_rfl
theorem noLine : typeLookup (.type "Exception") ("line" : Str) = pure none := by rw [typeLookup_type, builtinLookup_eq_fast]; kernel_rfl
theorem xc_mk {K : PySem.W.Frag} {C N : Addr} {od od2 : Option Addr} {nm qn : Str} {bs sub : List Value} {sn : List Str} {ab : Bool} {col : Option Bool} {e0 e1 e2 e3 e5 : Option Value} {oc : Value} {es : Array DictEntry} {ep : Nat} {sl : Array (Option Value)}
    (h1 : K.lookup C = some ⟨.type "type", od, .cls ⟨nm, bs, .ref C :: excMro, N, qn, true, sn, sub, ab, col, false⟩, #[e0, e1, e2, e3, some (.builtin "Exception.__new__"), e5]⟩) (h2 : K.lookup N = some ⟨oc, od2, .dict es ep, sl⟩)
    (h3 : (es.all fun e => match e.key with | .str _ _ => true | _ => false) = true) : xcIn K C = some N := by
  have h4 : PySem.W.nsOkIn K N = true := by
    unfold PySem.W.nsOkIn
    rw [h2]
    exact h3
  unfold xcIn
  rw [h1]
  show (if (C == C && (excMro == excMro && ("Exception.__new__" == "Exception.__new__" && (!false && (true && PySem.W.nsOkIn K N))))) = true then some N else none) = some N
  rw [h4, show (C == C) = true from beq_self_eq_true C, show (excMro == excMro) = true by decide]
  rfl
theorem in8_req {l : List Int} (h : l.all (Codec.inInt 0 255) = true) : JM.In8 l := fun x hx => by
  have q := List.all_eq_true.mp h x hx
  exact Codec.inInt_iff.mp q
theorem all_mk {P : Program} {w : World} {K : PySem.W.Frag} {h : Heap} {mg : Str → Option Value} {fa : Addr} (X : K.In h) (G : h.Ns mainGlobals mg) (hfa : mg "judge" = some (.ref fa))
    {f0 : Addr} {oc0 kV0 dc0 pm0 cd0 ct0 : Value} {od0 an0 : Option Addr} {sl0 : Array (Option Value)}
    {f1 : Addr} {oc1 kV1 dc1 pm1 cd1 ct1 : Value} {od1 an1 : Option Addr} {sl1 : Array (Option Value)}
    {f2 : Addr} {oc2 kV2 dc2 pm2 cd2 ct2 : Value} {od2 an2 : Option Addr} {sl2 : Array (Option Value)}
    {f3 : Addr} {oc3 kV3 dc3 pm3 cd3 ct3 : Value} {od3 an3 : Option Addr} {sl3 : Array (Option Value)}
    {f4 : Addr} {oc4 kV4 dc4 pm4 cd4 ct4 : Value} {od4 an4 : Option Addr} {sl4 : Array (Option Value)}
    {f5 : Addr} {oc5 kV5 dc5 pm5 cd5 ct5 : Value} {od5 an5 : Option Addr} {sl5 : Array (Option Value)}
    {f6 : Addr} {oc6 kV6 dc6 pm6 cd6 ct6 : Value} {od6 an6 : Option Addr} {sl6 : Array (Option Value)}
    {f7 : Addr} {oc7 kV7 dc7 pm7 cd7 ct7 : Value} {od7 an7 : Option Addr} {sl7 : Array (Option Value)}
    {f8 : Addr} {oc8 kV8 dc8 pm8 cd8 ct8 : Value} {od8 an8 : Option Addr} {sl8 : Array (Option Value)}
    {f9 : Addr} {oc9 kV9 dc9 pm9 cd9 ct9 : Value} {od9 an9 : Option Addr} {sl9 : Array (Option Value)}
    {f10 : Addr} {oc10 kV10 dc10 pm10 cd10 ct10 : Value} {od10 an10 : Option Addr} {sl10 : Array (Option Value)}
    {f11 : Addr} {oc11 kV11 dc11 pm11 cd11 ct11 : Value} {od11 an11 : Option Addr} {sl11 : Array (Option Value)}
    {f12 : Addr} {oc12 kV12 dc12 pm12 cd12 ct12 : Value} {od12 an12 : Option Addr} {sl12 : Array (Option Value)}
    {f13 : Addr} {oc13 kV13 dc13 pm13 cd13 ct13 : Value} {od13 an13 : Option Addr} {sl13 : Array (Option Value)}
    {f14 : Addr} {oc14 kV14 dc14 pm14 cd14 ct14 : Value} {od14 an14 : Option Addr} {sl14 : Array (Option Value)}
    {C0 g0 : Addr} {oC0 kC0 dC0 pC0 cC0 tC0 : Value} {oDC0 aC0 : Option Addr} {sC0 : Array (Option Value)}
    {C1 g1 : Addr} {oC1 kC1 dC1 pC1 cC1 tC1 : Value} {oDC1 aC1 : Option Addr} {sC1 : Array (Option Value)}
    {C2 g2 : Addr} {oC2 kC2 dC2 pC2 cC2 tC2 : Value} {oDC2 aC2 : Option Addr} {sC2 : Array (Option Value)}
    {CN NN gN : Addr} {oN kN dN pN cN tN : Value} {oDN aN : Option Addr} {sN : Array (Option Value)}
    {nmN qnN : Str} {bsN subN : List Value} {snN : List Str} {abN : Bool} {colN : Option Bool} {eN0 eN1 eN2 eN3 eN5 : Option Value} {odN1 odN2 : Option Addr} {ocN2 : Value} {esN : Array DictEntry} {epN : Nat} {slN2 : Array (Option Value)}
    {ti0 : Tok}
    {ti1 : Tok}
    {ti2 : Tok}
    {ti3 : Tok}
    {ti4 : Tok}
    {ti5 : Tok}
    {ti6 : Tok}
    {ti7 : Tok}
    {ti8 : Tok}
    {ti9 : Tok}
    {ti10 : Tok}
    {ti11 : Tok}
    {ti12 : Tok}
    {ts0 : Tok}
    {ts1 : Tok}
    {aT0 : Addr} {oT0 : Option Addr} {nT0 : Nat} {sT0 : Array (Option Value)} {tt0_0 tt0_1 tt0_2 : Tok}
    {aT1 : Addr} {oT1 : Option Addr} {nT1 : Nat} {sT1 : Array (Option Value)} {tt1_0 tt1_1 tt1_2 tt1_3 : Tok}
    {aT2 : Addr} {oT2 : Option Addr} {nT2 : Nat} {sT2 : Array (Option Value)} {tt2_0 tt2_1 tt2_2 tt2_3 : Tok}
    (a0 : PySem.W.nsIn K mainGlobals "spelled" = some (some (.ref f0)))
    (l0 : K.lookup f0 = some ⟨oc0, od0, .func (PySem.W.fnOf "spelled" "spelled" (defArgs sSpelled) (defBody sSpelled) (defScope sSpelled) .none kV0 dc0 pm0 an0 cd0 ct0), sl0⟩)
    (c0 : PySem.W.codeIn K cd0 "spelled" = true)
    (k0 : PySem.W.keepIn K (.ref f0) = true)
    (a1 : PySem.W.nsIn K mainGlobals "cut" = some (some (.ref f1)))
    (l1 : K.lookup f1 = some ⟨oc1, od1, .func (PySem.W.fnOf "cut" "cut" (defArgs sCut) (defBody sCut) (defScope sCut) .none kV1 dc1 pm1 an1 cd1 ct1), sl1⟩)
    (c1 : PySem.W.codeIn K cd1 "cut" = true)
    (k1 : PySem.W.keepIn K (.ref f1) = true)
    (a2 : PySem.W.nsIn K mainGlobals "place_among" = some (some (.ref f2)))
    (l2 : K.lookup f2 = some ⟨oc2, od2, .func (PySem.W.fnOf "place_among" "place_among" (defArgs sAmong) (defBody sAmong) (defScope sAmong) .none kV2 dc2 pm2 an2 cd2 ct2), sl2⟩)
    (c2 : PySem.W.codeIn K cd2 "place_among" = true)
    (k2 : PySem.W.keepIn K (.ref f2) = true)
    (a3 : PySem.W.nsIn K mainGlobals "places_in" = some (some (.ref f3)))
    (l3 : K.lookup f3 = some ⟨oc3, od3, .func (PySem.W.fnOf "places_in" "places_in" (defArgs sPlaces) (defBody sPlaces) (defScope sPlaces) .none kV3 dc3 pm3 an3 cd3 ct3), sl3⟩)
    (c3 : PySem.W.codeIn K cd3 "places_in" = true)
    (k3 : PySem.W.keepIn K (.ref f3) = true)
    (a4 : PySem.W.nsIn K mainGlobals "read_colours" = some (some (.ref f4)))
    (l4 : K.lookup f4 = some ⟨oc4, od4, .func (PySem.W.fnOf "read_colours" "read_colours" (defArgs sColours) (defBody sColours) (defScope sColours) .none kV4 dc4 pm4 an4 cd4 ct4), sl4⟩)
    (c4 : PySem.W.codeIn K cd4 "read_colours" = true)
    (k4 : PySem.W.keepIn K (.ref f4) = true)
    (a5 : PySem.W.nsIn K mainGlobals "read_plate" = some (some (.ref f5)))
    (l5 : K.lookup f5 = some ⟨oc5, od5, .func (PySem.W.fnOf "read_plate" "read_plate" (defArgs sReadPlate) (defBody sReadPlate) (defScope sReadPlate) .none kV5 dc5 pm5 an5 cd5 ct5), sl5⟩)
    (c5 : PySem.W.codeIn K cd5 "read_plate" = true)
    (k5 : PySem.W.keepIn K (.ref f5) = true)
    (a6 : PySem.W.nsIn K mainGlobals "read_line" = some (some (.ref f6)))
    (l6 : K.lookup f6 = some ⟨oc6, od6, .func (PySem.W.fnOf "read_line" "read_line" (defArgs sLine) (defBody sLine) (defScope sLine) .none kV6 dc6 pm6 an6 cd6 ct6), sl6⟩)
    (c6 : PySem.W.codeIn K cd6 "read_line" = true)
    (k6 : PySem.W.keepIn K (.ref f6) = true)
    (a7 : PySem.W.nsIn K mainGlobals "read_side" = some (some (.ref f7)))
    (l7 : K.lookup f7 = some ⟨oc7, od7, .func (PySem.W.fnOf "read_side" "read_side" (defArgs sSide) (defBody sSide) (defScope sSide) .none kV7 dc7 pm7 an7 cd7 ct7), sl7⟩)
    (c7 : PySem.W.codeIn K cd7 "read_side" = true)
    (k7 : PySem.W.keepIn K (.ref f7) = true)
    (a8 : PySem.W.nsIn K mainGlobals "read_row" = some (some (.ref f8)))
    (l8 : K.lookup f8 = some ⟨oc8, od8, .func (PySem.W.fnOf "read_row" "read_row" (defArgs sRow) (defBody sRow) (defScope sRow) .none kV8 dc8 pm8 an8 cd8 ct8), sl8⟩)
    (c8 : PySem.W.codeIn K cd8 "read_row" = true)
    (k8 : PySem.W.keepIn K (.ref f8) = true)
    (a9 : PySem.W.nsIn K mainGlobals "may_stand" = some (some (.ref f9)))
    (l9 : K.lookup f9 = some ⟨oc9, od9, .func (PySem.W.fnOf "may_stand" "may_stand" (defArgs sMay) (defBody sMay) (defScope sMay) .none kV9 dc9 pm9 an9 cd9 ct9), sl9⟩)
    (c9 : PySem.W.codeIn K cd9 "may_stand" = true)
    (k9 : PySem.W.keepIn K (.ref f9) = true)
    (a10 : PySem.W.nsIn K mainGlobals "lacks_flags" = some (some (.ref f10)))
    (l10 : K.lookup f10 = some ⟨oc10, od10, .func (PySem.W.fnOf "lacks_flags" "lacks_flags" (defArgs sLacksF) (defBody sLacksF) (defScope sLacksF) .none kV10 dc10 pm10 an10 cd10 ct10), sl10⟩)
    (c10 : PySem.W.codeIn K cd10 "lacks_flags" = true)
    (k10 : PySem.W.keepIn K (.ref f10) = true)
    (a11 : PySem.W.nsIn K mainGlobals "lacks_cells" = some (some (.ref f11)))
    (l11 : K.lookup f11 = some ⟨oc11, od11, .func (PySem.W.fnOf "lacks_cells" "lacks_cells" (defArgs sLacksC) (defBody sLacksC) (defScope sLacksC) .none kV11 dc11 pm11 an11 cd11 ct11), sl11⟩)
    (c11 : PySem.W.codeIn K cd11 "lacks_cells" = true)
    (k11 : PySem.W.keepIn K (.ref f11) = true)
    (a12 : PySem.W.nsIn K mainGlobals "has_whole_hoists" = some (some (.ref f12)))
    (l12 : K.lookup f12 = some ⟨oc12, od12, .func (PySem.W.fnOf "has_whole_hoists" "has_whole_hoists" (defArgs sWhole) (defBody sWhole) (defScope sWhole) .none kV12 dc12 pm12 an12 cd12 ct12), sl12⟩)
    (c12 : PySem.W.codeIn K cd12 "has_whole_hoists" = true)
    (k12 : PySem.W.keepIn K (.ref f12) = true)
    (a13 : PySem.W.nsIn K mainGlobals "put" = some (some (.ref f13)))
    (l13 : K.lookup f13 = some ⟨oc13, od13, .func (PySem.W.fnOf "put" "put" (defArgs sPut) (defBody sPut) (defScope sPut) .none kV13 dc13 pm13 an13 cd13 ct13), sl13⟩)
    (c13 : PySem.W.codeIn K cd13 "put" = true)
    (k13 : PySem.W.keepIn K (.ref f13) = true)
    (a14 : PySem.W.nsIn K mainGlobals "judge" = some (some (.ref f14)))
    (l14 : K.lookup f14 = some ⟨oc14, od14, .func (PySem.W.fnOf "judge" "judge" (defArgs sJudge) (defBody sJudge) (defScope sJudge) .none kV14 dc14 pm14 an14 cd14 ct14), sl14⟩)
    (c14 : PySem.W.codeIn K cd14 "judge" = true)
    (k14 : PySem.W.keepIn K (.ref f14) = true)
    (ka0 : PySem.W.nsIn K mainGlobals "Sighting" = some (some (.ref C0)))
    (kb0 : PySem.W.findIn K (.ref C0) "__init__" = some (some (.ref g0)))
    (kc0 : PySem.W.isFn K (.ref g0) = true)
    (kd0 : K.lookup g0 = some ⟨oC0, oDC0, .func (PySem.W.fnOf "__init__" "Sighting.__init__" (defArgs sSightingI) (defBody sSightingI) (defScope sSightingI) .none kC0 dC0 pC0 aC0 cC0 tC0), sC0⟩)
    (ke0 : PySem.W.codeIn K cC0 "Sighting.__init__" = true)
    (kf0 : PySem.W.keepIn K (.ref g0) = true)
    (kg0 : PySem.W.plainGet K C0 Str.empty = true)
    (kh0 : PySem.W.hasDictIn K C0 = true)
    (ki0 : PySem.W.plainOver K C0 = true)
    (kj0 : PySem.W.findIn K (.ref C0) "__setattr__" = some (some (.builtin "object.__setattr__")))
    (kk0 : PySem.W.makesIn K C0 = true)
    (kl0 : PySem.W.keepIn K (.ref C0) = true)
    (kn0_0 : PySem.W.findIn K (.ref C0) "shape" = some none)
    (kn0_1 : PySem.W.findIn K (.ref C0) "cells" = some none)
    (ka1 : PySem.W.nsIn K mainGlobals "Glimpse" = some (some (.ref C1)))
    (kb1 : PySem.W.findIn K (.ref C1) "__init__" = some (some (.ref g1)))
    (kc1 : PySem.W.isFn K (.ref g1) = true)
    (kd1 : K.lookup g1 = some ⟨oC1, oDC1, .func (PySem.W.fnOf "__init__" "Glimpse.__init__" (defArgs sGlimpseI) (defBody sGlimpseI) (defScope sGlimpseI) .none kC1 dC1 pC1 aC1 cC1 tC1), sC1⟩)
    (ke1 : PySem.W.codeIn K cC1 "Glimpse.__init__" = true)
    (kf1 : PySem.W.keepIn K (.ref g1) = true)
    (kg1 : PySem.W.plainGet K C1 Str.empty = true)
    (kh1 : PySem.W.hasDictIn K C1 = true)
    (ki1 : PySem.W.plainOver K C1 = true)
    (kj1 : PySem.W.findIn K (.ref C1) "__setattr__" = some (some (.builtin "object.__setattr__")))
    (kk1 : PySem.W.makesIn K C1 = true)
    (kl1 : PySem.W.keepIn K (.ref C1) = true)
    (kn1_0 : PySem.W.findIn K (.ref C1) "above" = some none)
    (kn1_1 : PySem.W.findIn K (.ref C1) "below" = some none)
    (kn1_2 : PySem.W.findIn K (.ref C1) "flags" = some none)
    (ka2 : PySem.W.nsIn K mainGlobals "Plate" = some (some (.ref C2)))
    (kb2 : PySem.W.findIn K (.ref C2) "__init__" = some (some (.ref g2)))
    (kc2 : PySem.W.isFn K (.ref g2) = true)
    (kd2 : K.lookup g2 = some ⟨oC2, oDC2, .func (PySem.W.fnOf "__init__" "Plate.__init__" (defArgs sPlateI) (defBody sPlateI) (defScope sPlateI) .none kC2 dC2 pC2 aC2 cC2 tC2), sC2⟩)
    (ke2 : PySem.W.codeIn K cC2 "Plate.__init__" = true)
    (kf2 : PySem.W.keepIn K (.ref g2) = true)
    (kg2 : PySem.W.plainGet K C2 Str.empty = true)
    (kh2 : PySem.W.hasDictIn K C2 = true)
    (ki2 : PySem.W.plainOver K C2 = true)
    (kj2 : PySem.W.findIn K (.ref C2) "__setattr__" = some (some (.builtin "object.__setattr__")))
    (kk2 : PySem.W.makesIn K C2 = true)
    (kl2 : PySem.W.keepIn K (.ref C2) = true)
    (kn2_0 : PySem.W.findIn K (.ref C2) "side" = some none)
    (kn2_1 : PySem.W.findIn K (.ref C2) "classes" = some none)
    (kn2_2 : PySem.W.findIn K (.ref C2) "glimpses" = some none)
    (na : PySem.W.nsIn K mainGlobals "NoPlate" = some (some (.ref CN)))
    (nb : K.lookup CN = some ⟨.type "type", odN1, .cls ⟨nmN, bsN, .ref CN :: excMro, NN, qnN, true, snN, subN, abN, colN, false⟩, #[eN0, eN1, eN2, eN3, some (.builtin "Exception.__new__"), eN5]⟩)
    (nb2 : K.lookup NN = some ⟨ocN2, odN2, .dict esN epN, slN2⟩)
    (nb3 : (esN.all fun e => match e.key with | .str _ _ => true | _ => false) = true)
    (nc : PySem.W.nsIn K NN "__getattribute__" = some none)
    (nd : PySem.W.nsIn K NN "__getattr__" = some none)
    (ne : PySem.W.nsIn K NN "__setattr__" = some none)
    (nf : PySem.W.nsIn K NN "__init__" = some (some (.ref gN)))
    (ng : PySem.W.isFn K (.ref gN) = true)
    (nh : K.lookup gN = some ⟨oN, oDN, .func (PySem.W.fnOf "__init__" "NoPlate.__init__" (defArgs sNoPlateI) (defBody sNoPlateI) (defScope sNoPlateI) .none kN dN pN aN cN tN), sN⟩)
    (ni : PySem.W.codeIn K cN "NoPlate.__init__" = true)
    (nj : PySem.W.keepIn K (.ref gN) = true)
    (nk : PySem.W.keepIn K (.ref CN) = true)
    (nn0 : PySem.W.nsIn K NN "kind" = some none)
    (nn1 : PySem.W.nsIn K NN "line" = some none)
    (nz : PySem.W.findCls K (.type "Exception") (.type "type") "__init__" = some (.val (.builtin "Exception.__init__")))
    (ci0 : PySem.W.nsIn K mainGlobals "CELLS" = some (some (.int 16 ti0)))
    (ci1 : PySem.W.nsIn K mainGlobals "ROW" = some (some (.int 4 ti1)))
    (ci2 : PySem.W.nsIn K mainGlobals "MOST_BYTES" = some (some (.int 65536 ti2)))
    (ci3 : PySem.W.nsIn K mainGlobals "LINE_END" = some (some (.int 10 ti3)))
    (ci4 : PySem.W.nsIn K mainGlobals "BLANK" = some (some (.int 32 ti4)))
    (ci5 : PySem.W.nsIn K mainGlobals "MOST_HOISTS" = some (some (.int 4 ti5)))
    (ci6 : PySem.W.nsIn K mainGlobals "MOST_FLAGS" = some (some (.int 8 ti6)))
    (ci7 : PySem.W.nsIn K mainGlobals "SIDE_LINE" = some (some (.int 0 ti7)))
    (ci8 : PySem.W.nsIn K mainGlobals "HOIST_LINE" = some (some (.int 1 ti8)))
    (ci9 : PySem.W.nsIn K mainGlobals "SHAPE_LINE" = some (some (.int 2 ti9)))
    (ci10 : PySem.W.nsIn K mainGlobals "CELLS_LINE" = some (some (.int 3 ti10)))
    (ci11 : PySem.W.nsIn K mainGlobals "NO_SUCH_LINE" = some (some (.int 1 ti11)))
    (ci12 : PySem.W.nsIn K mainGlobals "WRONG_PLACE" = some (some (.int 2 ti12)))
    (cs0 : PySem.W.nsIn K mainGlobals "COLOUR_SIGNS" = some (some (.str "0123456789abcdef" ts0)))
    (cs1 : PySem.W.nsIn K mainGlobals "SEEN_SIGNS" = some (some (.str "0123456789abcdef?" ts1)))
    (ct0 : PySem.W.nsIn K mainGlobals "SIDES" = some (some (.ref aT0)))
    (cu0 : K.lookup aT0 = some ⟨.type "tuple", oT0, .seq #[.str "front" tt0_0, .str "behind" tt0_1, .str "unknown" tt0_2] nT0, sT0⟩)
    (ct1 : PySem.W.nsIn K mainGlobals "HOIST_LINES" = some (some (.ref aT1)))
    (cu1 : K.lookup aT1 = some ⟨.type "tuple", oT1, .seq #[.str "hoist" tt1_0, .str "hoist above" tt1_1, .str "hoist below" tt1_2, .str "hoist above below" tt1_3] nT1, sT1⟩)
    (ct2 : PySem.W.nsIn K mainGlobals "SEEN_SHAPES" = some (some (.ref aT2)))
    (cu2 : K.lookup aT2 = some ⟨.type "tuple", oT2, .seq #[.str "square" tt2_0, .str "tails" tt2_1, .str "long" tt2_2, .str "shape?" tt2_3] nT2, sT2⟩)
    (z0 : PySem.W.nsIn K mainGlobals "ord" = some none)
    (z1 : PySem.W.nsIn K mainGlobals "enumerate" = some none)
    (z2 : PySem.W.nsIn K mainGlobals "all" = some none)
    (z3 : PySem.W.nsIn K mainGlobals "len" = some none)
    (z4 : PySem.W.nsIn K mainGlobals "Exception" = some none) :
    ∃ fd : FuncData, (∀ (s : Shared) (us : List Value), us.length = (["p"] : List Str).length → BindsTo s fd ⟨us, []⟩ ((["p"] : List Str).zip us)) ∧ ∀ base : Heap, K.In base → base.Ns mainGlobals mg → FnOk P w K mg base CX0 7 fa fd ["p"] (spJudge K) := by
  have e := hfa.symm.trans (PySem.W.mg_of X G a14)
  cases e
  have D0 : Def K mg "spelled" sSpelled ["written"] := ⟨_, _, fun_mk (st := sSpelled) l0 c0 k0, PySem.W.mg_of X G a0, k0, (fun_mk (st := sSpelled) l0 c0 k0).binds (ps := ["written"]) fun _ _ _ _ _ _ us hl => match us, hl with | [_], _ => rfl⟩
  have D1 : Def K mg "cut" sCut ["text", "mark"] := ⟨_, _, fun_mk (st := sCut) l1 c1 k1, PySem.W.mg_of X G a1, k1, (fun_mk (st := sCut) l1 c1 k1).binds (ps := ["text", "mark"]) fun _ _ _ _ _ _ us hl => match us, hl with | [_, _], _ => rfl⟩
  have D2 : Def K mg "place_among" sAmong ["words", "part"] := ⟨_, _, fun_mk (st := sAmong) l2 c2 k2, PySem.W.mg_of X G a2, k2, (fun_mk (st := sAmong) l2 c2 k2).binds (ps := ["words", "part"]) fun _ _ _ _ _ _ us hl => match us, hl with | [_, _], _ => rfl⟩
  have D3 : Def K mg "places_in" sPlaces ["signs", "part"] := ⟨_, _, fun_mk (st := sPlaces) l3 c3 k3, PySem.W.mg_of X G a3, k3, (fun_mk (st := sPlaces) l3 c3 k3).binds (ps := ["signs", "part"]) fun _ _ _ _ _ _ us hl => match us, hl with | [_, _], _ => rfl⟩
  have D4 : Def K mg "read_colours" sColours ["part"] := ⟨_, _, fun_mk (st := sColours) l4 c4 k4, PySem.W.mg_of X G a4, k4, (fun_mk (st := sColours) l4 c4 k4).binds (ps := ["part"]) fun _ _ _ _ _ _ us hl => match us, hl with | [_], _ => rfl⟩
  have D5 : Def K mg "read_plate" sReadPlate ["text"] := ⟨_, _, fun_mk (st := sReadPlate) l5 c5 k5, PySem.W.mg_of X G a5, k5, (fun_mk (st := sReadPlate) l5 c5 k5).binds (ps := ["text"]) fun _ _ _ _ _ _ us hl => match us, hl with | [_], _ => rfl⟩
  have D6 : Def K mg "read_line" sLine ["line"] := ⟨_, _, fun_mk (st := sLine) l6 c6 k6, PySem.W.mg_of X G a6, k6, (fun_mk (st := sLine) l6 c6 k6).binds (ps := ["line"]) fun _ _ _ _ _ _ us hl => match us, hl with | [_], _ => rfl⟩
  have D7 : Def K mg "read_side" sSide ["line"] := ⟨_, _, fun_mk (st := sSide) l7 c7 k7, PySem.W.mg_of X G a7, k7, (fun_mk (st := sSide) l7 c7 k7).binds (ps := ["line"]) fun _ _ _ _ _ _ us hl => match us, hl with | [_], _ => rfl⟩
  have D8 : Def K mg "read_row" sRow ["line"] := ⟨_, _, fun_mk (st := sRow) l8 c8 k8, PySem.W.mg_of X G a8, k8, (fun_mk (st := sRow) l8 c8 k8).binds (ps := ["line"]) fun _ _ _ _ _ _ us hl => match us, hl with | [_], _ => rfl⟩
  have D9 : Def K mg "may_stand" sMay ["plate", "sort"] := ⟨_, _, fun_mk (st := sMay) l9 c9 k9, PySem.W.mg_of X G a9, k9, (fun_mk (st := sMay) l9 c9 k9).binds (ps := ["plate", "sort"]) fun _ _ _ _ _ _ us hl => match us, hl with | [_, _], _ => rfl⟩
  have D10 : Def K mg "lacks_flags" sLacksF ["plate"] := ⟨_, _, fun_mk (st := sLacksF) l10 c10 k10, PySem.W.mg_of X G a10, k10, (fun_mk (st := sLacksF) l10 c10 k10).binds (ps := ["plate"]) fun _ _ _ _ _ _ us hl => match us, hl with | [_], _ => rfl⟩
  have D11 : Def K mg "lacks_cells" sLacksC ["plate"] := ⟨_, _, fun_mk (st := sLacksC) l11 c11 k11, PySem.W.mg_of X G a11, k11, (fun_mk (st := sLacksC) l11 c11 k11).binds (ps := ["plate"]) fun _ _ _ _ _ _ us hl => match us, hl with | [_], _ => rfl⟩
  have D12 : Def K mg "has_whole_hoists" sWhole ["plate"] := ⟨_, _, fun_mk (st := sWhole) l12 c12 k12, PySem.W.mg_of X G a12, k12, (fun_mk (st := sWhole) l12 c12 k12).binds (ps := ["plate"]) fun _ _ _ _ _ _ us hl => match us, hl with | [_], _ => rfl⟩
  have D13 : Def K mg "put" sPut ["plate", "sort", "told"] := ⟨_, _, fun_mk (st := sPut) l13 c13 k13, PySem.W.mg_of X G a13, k13, (fun_mk (st := sPut) l13 c13 k13).binds (ps := ["plate", "sort", "told"]) fun _ _ _ _ _ _ us hl => match us, hl with | [_, _, _], _ => rfl⟩
  have D14 : Def K mg "judge" sJudge ["p"] := ⟨_, _, fun_mk (st := sJudge) l14 c14 k14, PySem.W.mg_of X G a14, k14, (fun_mk (st := sJudge) l14 c14 k14).binds (ps := ["p"]) fun _ _ _ _ _ _ us hl => match us, hl with | [_], _ => rfl⟩
  have I_CELLS : Cn mg "CELLS" (.int 16) := ⟨_, PySem.W.mg_of X G ci0, ⟨_, rfl⟩⟩
  have I_ROW : Cn mg "ROW" (.int 4) := ⟨_, PySem.W.mg_of X G ci1, ⟨_, rfl⟩⟩
  have I_MOST_BYTES : Cn mg "MOST_BYTES" (.int 65536) := ⟨_, PySem.W.mg_of X G ci2, ⟨_, rfl⟩⟩
  have I_LINE_END : Cn mg "LINE_END" (.int 10) := ⟨_, PySem.W.mg_of X G ci3, ⟨_, rfl⟩⟩
  have I_BLANK : Cn mg "BLANK" (.int 32) := ⟨_, PySem.W.mg_of X G ci4, ⟨_, rfl⟩⟩
  have I_MOST_HOISTS : Cn mg "MOST_HOISTS" (.int 4) := ⟨_, PySem.W.mg_of X G ci5, ⟨_, rfl⟩⟩
  have I_MOST_FLAGS : Cn mg "MOST_FLAGS" (.int 8) := ⟨_, PySem.W.mg_of X G ci6, ⟨_, rfl⟩⟩
  have I_SIDE_LINE : Cn mg "SIDE_LINE" (.int 0) := ⟨_, PySem.W.mg_of X G ci7, ⟨_, rfl⟩⟩
  have I_HOIST_LINE : Cn mg "HOIST_LINE" (.int 1) := ⟨_, PySem.W.mg_of X G ci8, ⟨_, rfl⟩⟩
  have I_SHAPE_LINE : Cn mg "SHAPE_LINE" (.int 2) := ⟨_, PySem.W.mg_of X G ci9, ⟨_, rfl⟩⟩
  have I_CELLS_LINE : Cn mg "CELLS_LINE" (.int 3) := ⟨_, PySem.W.mg_of X G ci10, ⟨_, rfl⟩⟩
  have I_NO_SUCH_LINE : Cn mg "NO_SUCH_LINE" (.int 1) := ⟨_, PySem.W.mg_of X G ci11, ⟨_, rfl⟩⟩
  have I_WRONG_PLACE : Cn mg "WRONG_PLACE" (.int 2) := ⟨_, PySem.W.mg_of X G ci12, ⟨_, rfl⟩⟩
  have S_COLOUR_SIGNS : Cn mg "COLOUR_SIGNS" (.str "0123456789abcdef") := ⟨_, PySem.W.mg_of X G cs0, ⟨_, rfl⟩⟩
  have S_SEEN_SIGNS : Cn mg "SEEN_SIGNS" (.str "0123456789abcdef?") := ⟨_, PySem.W.mg_of X G cs1, ⟨_, rfl⟩⟩
  have T_SIDES : Tn K mg "SIDES" ((["front", "behind", "unknown"] : List Str).map V.str) := ⟨_, PySem.W.mg_of X G ct0, fun _ => .inr ⟨_, _, _, cu0, rfl, rfl, (by show 3 ≤ sizeLine; decide), (.cons ⟨_, rfl⟩ (.cons ⟨_, rfl⟩ (.cons ⟨_, rfl⟩ .nil)))⟩⟩
  have T_HOIST_LINES : Tn K mg "HOIST_LINES" ((["hoist", "hoist above", "hoist below", "hoist above below"] : List Str).map V.str) := ⟨_, PySem.W.mg_of X G ct1, fun _ => .inr ⟨_, _, _, cu1, rfl, rfl, (by show 4 ≤ sizeLine; decide), (.cons ⟨_, rfl⟩ (.cons ⟨_, rfl⟩ (.cons ⟨_, rfl⟩ (.cons ⟨_, rfl⟩ .nil))))⟩⟩
  have T_SEEN_SHAPES : Tn K mg "SEEN_SHAPES" ((["square", "tails", "long", "shape?"] : List Str).map V.str) := ⟨_, PySem.W.mg_of X G ct2, fun _ => .inr ⟨_, _, _, cu2, rfl, rfl, (by show 4 ≤ sizeLine; decide), (.cons ⟨_, rfl⟩ (.cons ⟨_, rfl⟩ (.cons ⟨_, rfl⟩ (.cons ⟨_, rfl⟩ .nil))))⟩⟩
  have Z_ord : mg "ord" = none := PySem.W.mg_none_of X G z0
  have Z_enumerate : mg "enumerate" = none := PySem.W.mg_none_of X G z1
  have Z_all : mg "all" = none := PySem.W.mg_none_of X G z2
  have Z_len : mg "len" = none := PySem.W.mg_none_of X G z3
  have Z_Exception : mg "Exception" = none := PySem.W.mg_none_of X G z4
  have FC0 := fun_mk (st := sSightingI) kd0 ke0 kf0
  have BC0 := FC0.binds (ps := ["self", "shape", "cells"]) fun _ _ _ _ _ _ us hl => match us, hl with | [_, _, _], _ => rfl
  have FC1 := fun_mk (st := sGlimpseI) kd1 ke1 kf1
  have BC1 := FC1.binds (ps := ["self", "above", "below", "flags"]) fun _ _ _ _ _ _ us hl => match us, hl with | [_, _, _, _], _ => rfl
  have FC2 := fun_mk (st := sPlateI) kd2 ke2 kf2
  have BC2 := FC2.binds (ps := ["self", "side", "classes", "glimpses"]) fun _ _ _ _ _ _ us hl => match us, hl with | [_, _, _, _], _ => rfl
  have FN := fun_mk (st := sNoPlateI) nh ni nj
  have BN := FN.binds (ps := ["self", "kind", "line"]) fun _ _ _ _ _ _ us hl => match us, hl with | [_, _, _], _ => rfl
  have TNp : NpT K mg CN NN := ⟨⟨xc_mk nb nb2 nb3, nc, nd, ne⟩, ⟨nn0, noKind⟩, ⟨nn1, noLine⟩, PySem.W.mg_of X G na, nk⟩
  have TC : CsT K ⟨C0, C1, C2⟩ := ⟨⟨kg0, kh0, ki0, kj0⟩, ⟨kg1, kh1, ki1, kj1⟩, ⟨kg2, kh2, ki2, kj2⟩, kn0_0, kn0_1, kn1_0, kn1_1, kn1_2, kn2_0, kn2_1, kn2_2⟩
  refine ⟨PySem.W.fnOf "judge" "judge" (defArgs sJudge) (defBody sJudge) (defScope sJudge) .none kV14 dc14 pm14 an14 cd14 ct14, fun s us hu => match us, hu with | [_], _ => .of_eq rfl, fun base _ _ => ?_⟩
  have dSp : Dn P w K mg base CX0 1 "spelled" ["written"] spSpelled := D0.dn fun f fd F => ok_spelled F Z_ord
  have dCut : Dn P w K mg base CX0 1 "cut" ["text", "mark"] (spCut K) := D1.dn fun f fd F => ok_cut F
  obtain ⟨fS, fdS, GS, mS, kS, bS⟩ := id dSp
  have dAm : Dn P w K mg base CX0 2 "place_among" ["words", "part"] (spAmong K) := D2.dn fun f fd F => ok_among F Z_enumerate GS mS kS bS
  have dPl : Dn P w K mg base CX0 2 "places_in" ["signs", "part"] (spPlaces K) := D3.dn fun f fd F => ok_places F Z_all GS mS kS bS
  obtain ⟨fP, fdP, GP, mP, kP, bP⟩ := id dPl
  obtain ⟨uC, mC, rC⟩ := S_COLOUR_SIGNS
  have dCo : Dn P w K mg base CX0 3 "read_colours" ["part"] (spColours K) := D4.dn fun f fd F => ok_colours F Z_len mC rC GP mP kP bP
  have dRow : Dn P w K mg base CX0 3 "read_row" ["line"] (spRow K) := D8.dn fun f fd F => ok_row F Z_len I_ROW S_SEEN_SIGNS dPl
  have dSide : Dn P w K mg base CX0 4 "read_side" ["line"] (spSide K) := D7.dn fun f fd F => ok_side F Z_len I_BLANK T_SIDES dCut dSp dAm dCo
  have dLine : Dn P w K mg base CX0 5 "read_line" ["line"] (spLine K) := D6.dn fun f fd F => ok_line F Z_enumerate T_HOIST_LINES T_SEEN_SHAPES dSide dAm dRow
  have dLF : Dn P w K mg base CX0 1 "lacks_flags" ["plate"] (spBool ⟨C0, C1, C2⟩ lacksFM) := D10.dn fun f fd F => ok_lacksF F TC
  have dLC : Dn P w K mg base CX0 2 "lacks_cells" ["plate"] (spBool ⟨C0, C1, C2⟩ lacksCM) := D11.dn fun f fd F => ok_lacksC F TC Z_len I_CELLS dLF
  have dWh : Dn P w K mg base CX0 3 "has_whole_hoists" ["plate"] (spBool ⟨C0, C1, C2⟩ wholeM) := D12.dn fun f fd F => ok_whole F TC dLF dLC
  have dMay : Dn P w K mg base CX0 3 "may_stand" ["plate", "sort"] (spMay ⟨C0, C1, C2⟩) := D9.dn fun f fd F => ok_may F TC Z_len I_SIDE_LINE I_HOIST_LINE I_CELLS_LINE I_MOST_HOISTS I_MOST_FLAGS dLF dLC
  have dMS : MkD P w K mg base "Sighting" C0 ["shape", "cells"] := ⟨_, _, ⟨kk0, kb0, kc0, kl0⟩, ok_sightingI FC0 TC, PySem.W.mg_of X G ka0, BC0⟩
  have dMG : MkD P w K mg base "Glimpse" C1 ["above", "below", "flags"] := ⟨_, _, ⟨kk1, kb1, kc1, kl1⟩, ok_glimpseI FC1 TC, PySem.W.mg_of X G ka1, BC1⟩
  have dMP : MkD P w K mg base "Plate" C2 ["side", "classes", "glimpses"] := ⟨_, _, ⟨kk2, kb2, kc2, kl2⟩, ok_plateI FC2 TC, PySem.W.mg_of X G ka2, BC2⟩
  have dPut : Dn P w K mg base CX0 3 "put" ["plate", "sort", "told"] (spPut ⟨C0, C1, C2⟩) := D13.dn fun f fd F => ok_put F TC I_SIDE_LINE I_HOIST_LINE I_SHAPE_LINE dMG dMS
  have dNp : NpD P w K mg base CN NN := ⟨_, _, TNp, nf, ng, ok_noPlateI FN TNp Z_Exception nz, BN⟩
  have dRP : Dn P w K mg base (CXf P w) 6 "read_plate" ["text"] (spPlate K ⟨C0, C1, C2⟩ CN) := D5.dn fun f fd F => ok_readPlate F TC Z_len Z_enumerate I_LINE_END I_NO_SUCH_LINE I_WRONG_PLACE dCut dMP dNp dLine dMay dPut dWh
  exact ok_judge (fun_mk (st := sJudge) l14 c14 k14) TC TNp Z_len I_MOST_BYTES dRP
end HD
open PySem PySem.W PyProof.Rows
set_option maxRecDepth 100000 in
set_option maxHeartbeats 0 in
theorem PySem.Challenge.cw_halfseendesk_s01_judge_holds : PySem.Challenge.rw_halfseendesk_s01_judge.Holds := by
  w_on; k_headS; (case hw => exact ⟨[.list []], by decide +kernel, by decide +kernel⟩)
  k_fillS
  refine L2.walk_specK (r := PySem.Challenge.rw_halfseendesk_s01_judge) (k := 7) (CX := L2.CX0) (ps := ["p"]) (sp := HD.spJudge) (by decide +kernel) rfl rfl ⟨rfl, by decide, by decide⟩ (fun w h Y => PySem.W.kIn_of Y) ?F ?S (fun _ _ _ _ z => z)
  case F =>
    intro w mg fa h Y KX G hmg
    refine' HD.all_mk KX G hmg ?a0 ?l0 ?c0 ?k0 ?a1 ?l1 ?c1 ?k1 ?a2 ?l2 ?c2 ?k2 ?a3 ?l3 ?c3 ?k3 ?a4 ?l4 ?c4 ?k4 ?a5 ?l5 ?c5 ?k5 ?a6 ?l6 ?c6 ?k6 ?a7 ?l7 ?c7 ?k7 ?a8 ?l8 ?c8 ?k8 ?a9 ?l9 ?c9 ?k9 ?a10 ?l10 ?c10 ?k10 ?a11 ?l11 ?c11 ?k11 ?a12 ?l12 ?c12 ?k12 ?a13 ?l13 ?c13 ?k13 ?a14 ?l14 ?c14 ?k14 ?ka0 ?kb0 ?kc0 ?kd0 ?ke0 ?kf0 ?kg0 ?kh0 ?ki0 ?kj0 ?kk0 ?kl0 ?kn0_0 ?kn0_1 ?ka1 ?kb1 ?kc1 ?kd1 ?ke1 ?kf1 ?kg1 ?kh1 ?ki1 ?kj1 ?kk1 ?kl1 ?kn1_0 ?kn1_1 ?kn1_2 ?ka2 ?kb2 ?kc2 ?kd2 ?ke2 ?kf2 ?kg2 ?kh2 ?ki2 ?kj2 ?kk2 ?kl2 ?kn2_0 ?kn2_1 ?kn2_2 ?na ?nb ?nb2 ?nb3 ?nc ?nd ?ne ?nf ?ng ?nh ?ni ?nj ?nk ?nn0 ?nn1 ?nz ?ci0 ?ci1 ?ci2 ?ci3 ?ci4 ?ci5 ?ci6 ?ci7 ?ci8 ?ci9 ?ci10 ?ci11 ?ci12 ?cs0 ?cs1 ?ct0 ?cu0 ?ct1 ?cu1 ?ct2 ?cu2 ?z0 ?z1 ?z2 ?z3 ?z4
    (case a0 => k_is)
    (case l0 => k_is)
    (case c0 => k_is)
    (case k0 => k_is)
    (case a1 => k_is)
    (case l1 => k_is)
    (case c1 => k_is)
    (case k1 => k_is)
    (case a2 => k_is)
    (case l2 => k_is)
    (case c2 => k_is)
    (case k2 => k_is)
    (case a3 => k_is)
    (case l3 => k_is)
    (case c3 => k_is)
    (case k3 => k_is)
    (case a4 => k_is)
    (case l4 => k_is)
    (case c4 => k_is)
    (case k4 => k_is)
    (case a5 => k_is)
    (case l5 => k_is)
    (case c5 => k_is)
    (case k5 => k_is)
    (case a6 => k_is)
    (case l6 => k_is)
    (case c6 => k_is)
    (case k6 => k_is)
    (case a7 => k_is)
    (case l7 => k_is)
    (case c7 => k_is)
    (case k7 => k_is)
    (case a8 => k_is)
    (case l8 => k_is)
    (case c8 => k_is)
    (case k8 => k_is)
    (case a9 => k_is)
    (case l9 => k_is)
    (case c9 => k_is)
    (case k9 => k_is)
    (case a10 => k_is)
    (case l10 => k_is)
    (case c10 => k_is)
    (case k10 => k_is)
    (case a11 => k_is)
    (case l11 => k_is)
    (case c11 => k_is)
    (case k11 => k_is)
    (case a12 => k_is)
    (case l12 => k_is)
    (case c12 => k_is)
    (case k12 => k_is)
    (case a13 => k_is)
    (case l13 => k_is)
    (case c13 => k_is)
    (case k13 => k_is)
    (case a14 => k_is)
    (case l14 => k_is)
    (case c14 => k_is)
    (case k14 => k_is)
    (case ka0 => k_is)
    (case kb0 => k_is)
    (case kc0 => k_is)
    (case kd0 => k_is)
    (case ke0 => k_is)
    (case kf0 => k_is)
    (case kg0 => k_is)
    (case kh0 => k_is)
    (case ki0 => k_is)
    (case kj0 => k_is)
    (case kk0 => k_is)
    (case kl0 => k_is)
    (case kn0_0 => k_is)
    (case kn0_1 => k_is)
    (case ka1 => k_is)
    (case kb1 => k_is)
    (case kc1 => k_is)
    (case kd1 => k_is)
    (case ke1 => k_is)
    (case kf1 => k_is)
    (case kg1 => k_is)
    (case kh1 => k_is)
    (case ki1 => k_is)
    (case kj1 => k_is)
    (case kk1 => k_is)
    (case kl1 => k_is)
    (case kn1_0 => k_is)
    (case kn1_1 => k_is)
    (case kn1_2 => k_is)
    (case ka2 => k_is)
    (case kb2 => k_is)
    (case kc2 => k_is)
    (case kd2 => k_is)
    (case ke2 => k_is)
    (case kf2 => k_is)
    (case kg2 => k_is)
    (case kh2 => k_is)
    (case ki2 => k_is)
    (case kj2 => k_is)
    (case kk2 => k_is)
    (case kl2 => k_is)
    (case kn2_0 => k_is)
    (case kn2_1 => k_is)
    (case kn2_2 => k_is)
    (case na => k_is)
    (case nb => k_is)
    (case nb2 => k_is)
    (case nb3 => simp)
    (case nc => k_is)
    (case nd => k_is)
    (case ne => k_is)
    (case nf => k_is)
    (case ng => k_is)
    (case nh => k_is)
    (case ni => k_is)
    (case nj => k_is)
    (case nk => k_is)
    (case nn0 => k_is)
    (case nn1 => k_is)
    (case nz => k_is)
    (case ci0 => k_is)
    (case ci1 => k_is)
    (case ci2 => k_is)
    (case ci3 => k_is)
    (case ci4 => k_is)
    (case ci5 => k_is)
    (case ci6 => k_is)
    (case ci7 => k_is)
    (case ci8 => k_is)
    (case ci9 => k_is)
    (case ci10 => k_is)
    (case ci11 => k_is)
    (case ci12 => k_is)
    (case cs0 => k_is)
    (case cs1 => k_is)
    (case ct0 => k_is)
    (case cu0 => k_is)
    (case ct1 => k_is)
    (case cu1 => k_is)
    (case ct2 => k_is)
    (case cu2 => k_is)
    (case z0 => k_is)
    (case z1 => k_is)
    (case z2 => k_is)
    (case z3 => k_is)
    (case z4 => k_is)
  case S =>
    intro K H xs a hO hwi hask hx
    cases hx with
    | cons h1 h2 =>
      cases h2
      cases h1 with
      | lst hs ha =>
        have e := L2.ints_dw a.1 _ ha
        subst e
        have q : ((Codec.inLen 0 66000 a.1 && a.1.all (Codec.inInt 0 255)) && true) = true := hwi
        rw [Bool.and_eq_true, Bool.and_eq_true] at q
        have h8 : JM.In8 a.1 := HD.in8_req q.1.2
        refine ⟨_, a.1, rfl, hs, (Codec.inNat_iff.mp q.1.1).2, fun H' p hp => ?_⟩
        show L2.Dw K H' _ (.list ((PyWqbada.judge a.1).map .int))
        rw [← HD.judge_due h8]
        exact .lst (L2.SqL.of hp) (L2.dw_ints _)
#print axioms PySem.Challenge.cw_halfseendesk_s01_judge_holds
end
