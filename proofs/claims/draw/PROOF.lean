import PyProof.Rows.All
import Wide.All
import OpenK.AllK
import Wide.FinOn
import PyProof.EqAt
import PyProof.EqKinds
import PyProof.TupleCall
import KE.BitLaws
import Open.SpecLaws
import KE.OsHead
import KE.OsGo
import PyProof.ExcClass
import PyProof.InstLoad
import PyProof.InstStoreFacts
import PyProof.ExcAttrAll.Exception
import PyProof.RaisesMany
import PyProof.Commute
import PyProof.StationsW
import PyProof.Draws
import PyProof.EnumMake
import PyProof.TupleIter
import PyProof.WalksMore
import PyProof.ExcBaseAll.Exception
import PyProof.RulesAs
import PyProof.NsDelKeeps
import PyProof.NeKinds
import PySem.Challenge.RW_halfseendesk_s02_draw
import PyWqbada
section
set_option Elab.async false
set_option linter.all false
set_option maxRecDepth 100000
/-! THE HAND LAYER, for ints, bools, texts, own classes, lists, tuples, dicts, comprehensions, walks over dicts, enumerate, zip, reversed, texts, calls, loops. Paste it whole ahead of your own text; what your proof does not reach may be deleted. -/
namespace L2
open PySem PySem.Spec PyProof.Rows
/-- a key: an int or a str -/
abbrev Key := Sum Int Str
def keyIs : Key → Value → Bool
  | .inl k, v => Value.isInt k v
  | .inr x, v => Value.isStrOf x v
def keyH (w : World) : Key → Int
  | .inl k => hashInt k
  | .inr x => hashStr w x
theorem keyIs_shape : ∀ {k : Key} {v : Value}, keyIs k v = true → (∃ i t, k = Sum.inl i ∧ v = Value.int i t) ∨ (∃ x t, k = Sum.inr x ∧ v = Value.str x t)
  | .inl i, v, h => by
    obtain ⟨t, e⟩ := Value.isInt_shape (k := i) (v := v) h
    exact .inl ⟨i, t, rfl, e⟩
  | .inr x, v, h => by
    obtain ⟨t, e⟩ := Value.isStrOf_shape (x := x) (v := v) h
    exact .inr ⟨x, t, rfl, e⟩
theorem key_ll (a b : Int) : decide ((Sum.inl a : Key) = Sum.inl b) = (a == b) := by
  by_cases e : a = b
  · subst e; simp
  · have h : ¬ (Sum.inl a : Key) = Sum.inl b := fun q => e (Sum.inl.inj q)
    rw [decide_eq_false h]
    exact (beq_eq_false_iff_ne.mpr e).symm
theorem key_rr (a b : Str) : decide ((Sum.inr a : Key) = Sum.inr b) = decide (a = b) := by
  by_cases e : a = b
  · subst e; simp
  · have h : ¬ (Sum.inr a : Key) = Sum.inr b := fun q => e (Sum.inr.inj q)
    rw [decide_eq_false h, decide_eq_false e]
theorem key_lr (a : Int) (b : Str) : decide ((Sum.inl a : Key) = Sum.inr b) = false := decide_eq_false (fun q => nomatch q)
theorem key_rl (a : Str) (b : Int) : decide ((Sum.inr a : Key) = Sum.inl b) = false := decide_eq_false (fun q => nomatch q)
def mixKind (prog : Program) (w : World) : PySem.KeyKind prog w Key where
  is := keyIs
  hash := keyH w
  inj := fun v a b ha hb => by
    rcases keyIs_shape ha with ⟨i, t, rfl, rfl⟩ | ⟨x, t, rfl, rfl⟩
    · rcases keyIs_shape hb with ⟨j, u, rfl, e⟩ | ⟨y, u, rfl, e⟩
      · injection e with e1 _; rw [e1]
      · exact nomatch e
    · rcases keyIs_shape hb with ⟨j, u, rfl, e⟩ | ⟨y, u, rfl, e⟩
      · exact nomatch e
      · injection e with e1 _; rw [e1]
  byValue := fun k v h => by
    rcases keyIs_shape h with ⟨i, t, rfl, rfl⟩ | ⟨x, t, rfl, rfl⟩ <;> rfl
  pyHash := fun hv h => by
    rcases keyIs_shape hv with ⟨i, t, rfl, rfl⟩ | ⟨x, t, rfl, rfl⟩
    · exact wpAny_pyHash_int h
    · exact wpAny_pyHash_str h
  eqBool := fun hu hv h => by
    rcases keyIs_shape hu with ⟨i, t, rfl, rfl⟩ | ⟨x, t, rfl, rfl⟩
    · rcases keyIs_shape hv with ⟨j, u, rfl, rfl⟩ | ⟨y, u, rfl, rfl⟩
      · rw [key_ll] at h; exact wpAny_eqBool_int h
      · rw [key_lr] at h; exact SeqAt.EqAt.int_str i t y u _ _ _ _ h
    · rcases keyIs_shape hv with ⟨j, u, rfl, rfl⟩ | ⟨y, u, rfl, rfl⟩
      · rw [key_rl] at h; exact SeqAt.EqAt.str_int x t j u _ _ _ _ h
      · rw [key_rr] at h; exact wpAny_eqBool_str h
  «strs» := fun k x t v h => by
    rcases keyIs_shape h with ⟨i, u, rfl, e⟩ | ⟨y, u, rfl, e⟩
    · exact nomatch e
    · injection e with e1 _
      subst e1
      cases v <;> rfl
end L2
namespace L2
open PySem PySem.Spec PyProof.Rows
/-- a value, without the heap -/
inductive V where
  | non | bl (b : Bool) | int (i : Int) | str (x : Str) | byt (b : Array UInt8) | flt (b : UInt64) | ref (a : Addr) | ty (n : String)
  deriving DecidableEq
def RelV : V → Value → Prop
  | .non, u => u = Value.none
  | .bl b, u => u = Value.bool b
  | .int i, u => ∃ t, u = Value.int i t
  | .str x, u => ∃ t, u = Value.str x t
  | .byt b, u => ∃ t, u = Value.bytes b t
  | .flt b, u => ∃ t, u = Value.float b t
  | .ref a, u => u = Value.ref a
  | .ty n, u => u = Value.type n
abbrev Vals : List V → List Value → Prop := Paired RelV
theorem Vals.length {xs : List V} {us : List Value} (r : Vals xs us) : xs.length = us.length := Paired.length r
theorem Vals.get : ∀ {xs : List V} {us : List Value} {i : Nat} {x : V}, Vals xs us → xs[i]? = some x → ∃ u, us[i]? = some u ∧ RelV x u
  | _, _, _, _, .nil, e => by simp at e
  | _, _, 0, _, .cons r _, e => by simp at e; subst e; exact ⟨_, rfl, r⟩
  | _, _, i + 1, x, .cons _ t, e => by
    obtain ⟨u, h1, h2⟩ := Vals.get (i := i) (x := x) t (by simpa using e)
    exact ⟨u, by simpa using h1, h2⟩
theorem Vals.append : ∀ {xs ys : List V} {us ws : List Value}, Vals xs us → Vals ys ws → Vals (xs ++ ys) (us ++ ws)
  | _, _, _, _, .nil, s => s
  | _, _, _, _, .cons r t, s => .cons r (Vals.append t s)
theorem Vals.take : ∀ {xs : List V} {us : List Value} (n : Nat), Vals xs us → Vals (xs.take n) (us.take n)
  | _, _, 0, _ => .nil
  | _, _, _ + 1, .nil => .nil
  | _, _, n + 1, .cons r t => .cons r (Vals.take n t)
theorem Vals.drop : ∀ {xs : List V} {us : List Value} (n : Nat), Vals xs us → Vals (xs.drop n) (us.drop n)
  | _, _, 0, r => r
  | _, _, _ + 1, .nil => .nil
  | _, _, n + 1, .cons _ t => Vals.drop n t
def RelO : Option V → Option Value → Prop
  | some v, some u => RelV v u
  | none, none => True
  | _, _ => False
def KV {κ : Type} : List (κ × V) → List (κ × Value) → Prop := Paired fun (p : κ × V) (q : κ × Value) => p.1 = q.1 ∧ RelV p.2 q.2
/-- a key of a dict (00_mix): an int or a text -/
def kV : Key → V
  | .inl i => .int i
  | .inr x => .str x
/-- what stands at a tracked address -/
inductive HO where
  /-- a list -/
  | lst (xs : List V)
  /-- a tuple (never changes) -/
  | tup (xs : List V)
  /-- a dict whose keys are ints and texts; one whose keys are tuples of ints and texts (the empty one is both) -/
  | dK (kvs : List (Key × V)) | dT (kvs : List (List Key × V))
  /-- a set of ints: its members, its size -/
  | set (S : Int → Bool) (n : Nat)
  /-- an instance of the class at C, its dict at dx, its attributes -/
  | ins (C dx : Addr) (fs : List (Str × V))
  /-- the dict of the instance at x -/
  | own (x : Addr)
  /-- the dict of an exception -/
  | xd (fs : List (Str × V))
  /-- a bound method, f of x -/
  | met (f x : Addr)
  /-- a range object lo, lo + 1, .. below hi -/
  | rng (lo hi : Int)
  /-- a thing that is known to the object (the script; a dict while a loop walks it): read, never written while it is so -/
  | frz (o : Obj) (u : HO)
  /-- a code object's table -/
  | tbl (ps : Array Value)
  /-- any other thing, by what is true of its one object (a def of one's own: SetO a S n := HO.ext fun h => ..) -/
  | ext (φ : Heap → Prop)
abbrev Hp := Addr → Option HO
def upd (H : Hp) (a : Addr) (o : HO) : Hp := fun b => if b = a then some o else H b
theorem upd_same {H : Hp} {a : Addr} {o : HO} : upd H a o a = some o := by unfold upd; rw [if_pos rfl]
theorem upd_ne {H : Hp} {a b : Addr} {o : HO} (h : b ≠ a) : upd H a o b = H b := by unfold upd; rw [if_neg h]
theorem ne_of_none {H : Hp} {a b : Addr} {o : HO} (h : H a = some o) (h' : H b = none) : a ≠ b := by
  intro e; subst e; rw [h] at h'; cases h'
section
variable (P : Program) (w : World)
def ObjOk (H : Hp) (h : Heap) (a : Addr) : HO → Prop
  | .lst xs => xs.length ≤ sizeLine ∧ ∃ (its : List Value) (n : Nat), Vals xs its ∧ h.get? a = some { cls := .type "list", data := .seq its.toArray n }
  | .tup xs => xs.length ≤ sizeLine ∧ ∃ its : List Value, Vals xs its ∧ IsTup h a its.toArray
  | .dK kvs => kvs.length ≤ sizeLine ∧ (a == sysModules) = false ∧ ∃ vs, KV kvs vs ∧ h.DictOf (mixKind P w) a vs
  | .dT kvs => kvs.length ≤ sizeLine ∧ (a == sysModules) = false ∧ ∃ xs : List (List Key × Addr × Value),
      Paired (fun (p : List Key × V) (q : List Key × Addr × Value) => p.1 = q.1 ∧ H q.2.1 = some (.tup (p.1.map kV)) ∧ RelV p.2 q.2.2) kvs xs ∧
      ∃ o es ep, h.get? a = some o ∧ o.ExactDict ∧ o.data = .dict es ep ∧ es.toList = xs.map (entryOfKey (tupleKind (mixKind P w))) ∧ (xs.map (·.1)).Nodup
  | .set S n => h.SetOf (intKind P w) a S n
  | .ins C dx fs => H dx = some (.own a) ∧ fs.length ≤ 1000 ∧ dx ≠ a ∧ h.get? a = some (PySem.W.instObj C dx) ∧
      ∃ mA, h.Ns1 dx mA ∧ (∀ f, RelO (fs.lookup f) (mA f)) ∧ PySem.Within mA (fs.map (·.1))
  | .own _ => ∃ o, h.get? a = some o
  | .xd fs => ∃ mA, h.Ns1 a mA ∧ ∀ f, RelO (fs.lookup f) (mA f)
  | .rng lo hi => ∃ t u v, h.get? a = some { cls := .type "range", data := .fields #[.int lo t, .int hi u, .int 1 v] }
  | .frz o u => h.get? a = some o ∧ ObjOk H h a u
  | .tbl ps => h.get? a = some { cls := .none, data := .fields ps }
  | .met f x => h.get? a = some (PySem.W.methodObj (.ref f) (.ref x))
  | .ext φ => φ h ∧ (∃ o, h.get? a = some o) ∧ ∀ h1 h2 : Heap, φ h1 → (∀ o, h1.get? a = some o → h2.get? a = some o) → φ h2
/-- the abstract heap is held -/
def HOk (H : Hp) (h : Heap) : Prop := ∀ a o, H a = some o → ObjOk P w H h a o
end
section
variable {P : Program} {w : World} {H H' : Hp} {h h' : Heap} {a : Addr} {o : HO}
theorem ObjOk.lt (x : ObjOk P w H h a o) : a < h.objs.size := by
  cases o with
  | lst xs => obtain ⟨_, _, _, _, e⟩ := x; exact Heap.lt_size e
  | tup xs => obtain ⟨_, _, _, p⟩ := x; exact p.lt
  | dK kvs => obtain ⟨_, _, _, _, o, _, _, e, _⟩ := x; exact Heap.lt_size e
  | dT kvs => obtain ⟨_, _, _, _, o, _, _, e, _⟩ := x; exact Heap.lt_size e
  | set S n => obtain ⟨o, _, _, _, e, _⟩ := x; exact Heap.lt_size e
  | ins C dx fs => obtain ⟨_, _, _, e, _⟩ := x; exact Heap.lt_size e
  | own y => obtain ⟨_, e⟩ := x; exact Heap.lt_size e
  | xd fs => obtain ⟨_, ⟨_, _, _, e, _⟩, _⟩ := x; exact Heap.lt_size e
  | rng lo hi => obtain ⟨_, _, _, e⟩ := x; exact Heap.lt_size e
  | frz ob u => obtain ⟨e, _⟩ := x; exact Heap.lt_size e
  | tbl ps => exact Heap.lt_size (show h.get? a = some _ from x)
  | met f y => exact Heap.lt_size (show h.get? a = some _ from x)
  | ext φ => obtain ⟨_, ⟨_, e⟩, _⟩ := x; exact Heap.lt_size e
theorem Paired.mapP {α β : Type} {F G : α → β → Prop} : ∀ {l₁ : List α} {l₂ : List β}, Paired F l₁ l₂ → (∀ a b, F a b → G a b) → Paired G l₁ l₂
  | _, _, .nil, _ => .nil
  | _, _, .cons r t, f => .cons (f _ _ r) (Paired.mapP t f)
/-- what an object's description leans on: its own object, its own dict, the tuples -/
theorem ObjOk.stay (x : ObjOk P w H h a o) (k : ∀ b u, (b = a ∨ H b = some (.own a)) → h.get? b = some u → h'.get? b = some u)
    (ho : ∀ b, H b = some (.own a) → H' b = some (.own a)) (ht : ∀ b xs, H b = some (.tup xs) → H' b = some (.tup xs)) : ObjOk P w H' h' a o := by
  induction o with
  | lst xs => obtain ⟨z, its, n, r, e⟩ := x; exact ⟨z, its, n, r, k _ _ (.inl rfl) e⟩
  | tup xs => obtain ⟨z, its, r, ob, e, c⟩ := x; exact ⟨z, its, r, ob, k _ _ (.inl rfl) e, c⟩
  | dK kvs => obtain ⟨z, y, vs, r, ob, es, ep, e, c⟩ := x; exact ⟨z, y, vs, r, ob, es, ep, k _ _ (.inl rfl) e, c⟩
  | dT kvs =>
    obtain ⟨z, y, xs, r, ob, es, ep, e, c⟩ := x
    exact ⟨z, y, xs, Paired.mapP r fun p q z => ⟨z.1, ht _ _ z.2.1, z.2.2⟩, ob, es, ep, k _ _ (.inl rfl) e, c⟩
  | set S n => obtain ⟨ob, es, ep, t, e, c⟩ := x; exact ⟨ob, es, ep, t, k _ _ (.inl rfl) e, c⟩
  | ins C dx fs =>
    obtain ⟨d, z, ne, e, mA, ⟨od, es, ep, e2, c⟩, r⟩ := x
    exact ⟨ho _ d, z, ne, k _ _ (.inl rfl) e, mA, ⟨od, es, ep, k _ _ (.inr d) e2, c⟩, r⟩
  | own y => obtain ⟨ob, e⟩ := x; exact ⟨ob, k _ _ (.inl rfl) e⟩
  | xd fs => obtain ⟨mA, ⟨od, es, ep, e, c⟩, r⟩ := x; exact ⟨mA, ⟨od, es, ep, k _ _ (.inl rfl) e, c⟩, r⟩
  | rng lo hi => obtain ⟨t, u, v, e⟩ := x; exact ⟨t, u, v, k _ _ (.inl rfl) e⟩
  | frz ob u ih => obtain ⟨e, q⟩ := x; exact ⟨k _ _ (.inl rfl) e, ih q⟩
  | tbl ps =>
    have e : h.get? a = some { cls := .none, data := .fields ps } := x
    show h'.get? a = some { cls := .none, data := .fields ps }
    exact k a _ (.inl rfl) e
  | met f y =>
    have e : h.get? a = some (PySem.W.methodObj (.ref f) (.ref y)) := x
    show h'.get? a = some (PySem.W.methodObj (.ref f) (.ref y))
    exact k a _ (.inl rfl) e
  | ext φ => obtain ⟨p, ⟨o, e⟩, st⟩ := x; exact ⟨st _ _ p fun o q => k _ _ (.inl rfl) q, ⟨o, k _ _ (.inl rfl) e⟩, st⟩
theorem HOk.lt (x : HOk P w H h) (e : H a = some o) : a < h.objs.size := (x a o e).lt
theorem HOk.fresh (x : HOk P w H h) (e : h.objs.size ≤ a) : H a = none := by
  cases q : H a with
  | none => rfl
  | some u => exact absurd (Nat.lt_of_lt_of_le (x.lt q) e) (Nat.lt_irrefl _)
/-- every object of the heap is kept -/
theorem HOk.kept (x : HOk P w H h) (k : ∀ b u, h.get? b = some u → h'.get? b = some u) : HOk P w H h' := fun a o e =>
  (x a o e).stay (fun b u _ q => k b u q) (fun _ q => q) fun _ _ q => q
/-- a new object is laid and tracked -/
theorem HOk.laid (x : HOk P w H h) (k : ∀ b u, h.get? b = some u → h'.get? b = some u) (hp : h.objs.size ≤ a) (new : ObjOk P w (upd H a o) h' a o) : HOk P w (upd H a o) h' := fun b u e => by
  have hn := x.fresh hp
  by_cases hb : b = a
  · subst hb; rw [upd_same] at e; cases e; exact new
  · rw [upd_ne hb] at e
    exact (x b u e).stay (fun c v _ q => k c v q) (fun c q => by rw [upd_ne (ne_of_none q hn)]; exact q) fun c xs q => by rw [upd_ne (ne_of_none q hn)]; exact q
end
/-- what may be read as u: it is u, or a known u -/
def Rd (H : Hp) (a : Addr) (u : HO) : Prop := H a = some u ∨ ∃ o, H a = some (.frz o u)
theorem Rd.ok {P : Program} {w : World} {H : Hp} {h : Heap} {a : Addr} {u : HO} (r : Rd H a u) (x : HOk P w H h) : ObjOk P w H h a u := by
  rcases r with r | ⟨o, r⟩
  · exact x a u r
  · obtain ⟨_, q⟩ := x a _ r
    exact q
/-- what may be written -/
def Mut : Option HO → Prop
  | some (.lst _) => True
  | some (.dK _) => True
  | some (.dT _) => True
  | some (.set _ _) => True
  | some (.ins _ _ _) => True
  | some (.ext _) => True
  | _ => False
section
variable {P : Program} {w : World} {H : Hp} {h h' : Heap} {x e : Addr} {o' : HO}
/-- the object at e is changed: x itself, or the dict of the instance x -/
theorem HOk.write (ok : HOk P w H h) (mu : Mut (H x)) (he : e = x ∨ H e = some (.own x)) (k : ∀ b u, b ≠ e → h.get? b = some u → h'.get? b = some u) (heo : ∃ u, h'.get? e = some u)
    (new : ObjOk P w (upd H x o') h' x o') : HOk P w (upd H x o') h' := fun b u q => by
  have nown : ∀ c y, H c = some (.own y) → c ≠ x := fun c y r z => by subst z; rw [r] at mu; exact mu
  have ntup : ∀ c xs, H c = some (.tup xs) → c ≠ x := fun c xs r z => by subst z; rw [r] at mu; exact mu
  by_cases hb : b = x
  · subst hb; rw [upd_same] at q; cases q; exact new
  · rw [upd_ne hb] at q
    by_cases hbe : b = e
    · have q' : H b = some (.own x) := by
        rcases he with z | z
        · exact absurd (hbe.trans z) hb
        · rw [hbe]; exact z
      rw [q] at q'; cases q'
      obtain ⟨v, hv⟩ := heo
      exact ⟨v, by rw [hbe]; exact hv⟩
    · refine (ok b u q).stay (fun c v hc r => k c v ?_ r) (fun c r => by rw [upd_ne (nown c b r)]; exact r) fun c xs r => by rw [upd_ne (ntup c xs r)]; exact r
      rcases hc with rfl | hc
      · exact hbe
      · rintro rfl
        rcases he with z | z
        · exact nown c b hc z
        · rw [hc] at z; cases z; exact hb rfl
end
/-! ### kept unless tracked; of the frames at fs (the callers') the slots may change (an exception that passes writes there); of the records at ex (iterators) nothing is said -/
structure Un (fs ex : List Addr) (H H' : Hp) (h h' : Heap) : Prop where
  keep : ∀ b o, h.get? b = some o → H b = none → b ∉ fs → b ∉ ex → h'.get? b = some o
  slot : ∀ b o, h.get? b = some o → H b = none → b ∈ fs → b ∉ ex → ∃ sl, h'.get? b = some { o with slots := sl }
  free : ∀ b o, h.get? b = some o → H b = none → b ∉ ex → H' b = none
  there : ∀ b o, h.get? b = some o → b ∉ ex → ∃ o', h'.get? b = some o'
  tups : ∀ b xs, H b = some (.tup xs) → H' b = some (.tup xs)
  frzs : ∀ b o u, H b = some (.frz o u) → H' b = some (.frz o u)
  tbls : ∀ b ps, H b = some (.tbl ps) → ∃ more, H' b = some (.tbl (ps ++ more))
section
variable {fs fs' ex ex' : List Addr} {H H1 H2 : Hp} {h h1 h2 h' : Heap} {a x e : Addr} {o : HO}
theorem Un.any (u : Un fs ex H H1 h h1) {b : Addr} {ob : Obj} (q : h.get? b = some ob) (n : H b = none) (hx : b ∉ ex) : ∃ sl, h1.get? b = some { ob with slots := sl } := by
  by_cases hb : b ∈ fs
  · exact u.slot b ob q n hb hx
  · exact ⟨ob.slots, u.keep b ob q n hb hx⟩
theorem Un.kept (k : ∀ b u, h.get? b = some u → h'.get? b = some u) : Un fs ex H H h h' :=
  ⟨fun b ob q _ _ _ => k b ob q, fun b ob q _ _ _ => ⟨ob.slots, k b ob q⟩, fun _ _ _ n _ => n, fun b ob q _ => ⟨ob, k b ob q⟩, fun _ _ q => q, fun _ _ _ q => q, fun _ ps q => ⟨#[], by rw [q]; simp⟩⟩
theorem Un.refl : Un fs ex H H h h := Un.kept fun _ _ q => q
theorem Un.laid (k : ∀ b u, h.get? b = some u → h'.get? b = some u) (hp : h.objs.size ≤ a) (hn : H a = none) : Un fs ex H (upd H a o) h h' where
  keep := fun b u q _ _ _ => k b u q
  slot := fun b u q _ _ _ => ⟨u.slots, k b u q⟩
  free := fun b u q n _ => by rw [upd_ne (Nat.ne_of_lt (Nat.lt_of_lt_of_le (Heap.lt_size q) hp))]; exact n
  there := fun b u q _ => ⟨u, k b u q⟩
  tups := fun b xs q => by rw [upd_ne (ne_of_none q hn)]; exact q
  frzs := fun b u xs q => by rw [upd_ne (ne_of_none q hn)]; exact q
  tbls := fun b ps q => ⟨#[], by rw [upd_ne (ne_of_none q hn), q]; simp⟩
theorem Un.write (mu : Mut (H x)) (he : e = x ∨ H e = some (.own x)) (k : ∀ b u, b ≠ e → h.get? b = some u → h'.get? b = some u) (heo : ∃ u, h'.get? e = some u) : Un fs ex H (upd H x o) h h' := by
  have hx : ∀ b, H b = none → b ≠ x := fun b n z => by subst z; rw [n] at mu; exact mu
  have hb : ∀ b, H b = none → b ≠ e := fun b n z => by
    subst z
    rcases he with r | r
    · exact hx b n r
    · rw [n] at r; cases r
  have hm : ∀ b u, H b = some u → ¬ Mut (some u) → b ≠ x := fun b u q nm z => by subst z; rw [q] at mu; exact nm mu
  refine ⟨fun b u q n _ _ => k b u (hb b n) q, fun b u q n _ _ => ⟨u.slots, k b u (hb b n) q⟩, fun b u q n _ => by rw [upd_ne (hx b n)]; exact n, fun b u q _ => ?_,
    fun b xs q => by rw [upd_ne (hm b _ q fun z => z)]; exact q, fun b u xs q => by rw [upd_ne (hm b _ q fun z => z)]; exact q, fun b ps q => ⟨#[], by rw [upd_ne (hm b _ q fun z => z), q]; simp⟩⟩
  by_cases hbe : b = e
  · subst hbe; exact heo
  · exact ⟨u, k b u hbe q⟩
end
/-! ### the heap without what is tracked -/
def trk (h : Heap) (H : Hp) : List Addr := (List.range h.objs.size).filter fun a => (H a).isSome
def hidT (h : Heap) (H : Hp) : Heap := PySem.W.hideAll h (trk h H)
theorem hidT_size (h : Heap) (H : Hp) : (hidT h H).objs.size = h.objs.size := PySem.W.hideAll_size _ _
theorem hidT_get {h : Heap} {H : Hp} {b : Addr} {o : Obj} (e : h.get? b = some o) (n : H b = none) : (hidT h H).get? b = some o :=
  PySem.W.hideAll_get _ e fun hm => by
    have q : (H b).isSome = true := (List.mem_filter.mp hm).2
    rw [n] at q; simp at q
theorem of_hidT {h : Heap} {H : Hp} {b : Addr} {o : Obj} (e : (hidT h H).get? b = some o) : h.get? b = some o ∧ H b = none := by
  have e' : h.get? b = some o := PySem.W.of_hideAll (trk h H) e
  refine ⟨e', ?_⟩
  cases q : H b with
  | none => rfl
  | some x =>
    have hm : b ∈ trk h H := List.mem_filter.mpr ⟨List.mem_range.mpr (Heap.lt_size e'), by simp [q]⟩
    have z : (hidT h H).get? b = none := PySem.W.hideAll_none (trk h H) hm
    rw [z] at e; cases e
/-! ### OpenK's ledger, filled with every new object but one -/
end L2
namespace L2
open PySem PySem.Spec PyProof.Rows
/-- the module's facts, over the base: the heap at the law's entry without what is tracked there -/
structure Mod (K : PySem.W.Frag) (mg : Str → Option Value) (base : Heap) : Prop where
  kin : K.In base
  glob : base.Ns mainGlobals mg
  blt : ∃ mb, base.Ns builtinsNs mb ∧ ∀ x : Str, x ≠ "__name__" → mb x = bootBuiltins x
  nolimit : base.NoLimit
/-- the context: a def's body (or a comprehension's block) running. base: fixed through the whole law; s₀, H₀: the entry; outer: the frames whose slots others may change (a def's callers); stack: all frames that run;
   ex: iterators that were made ahead of the entry and are walked here (a comprehension's); fn: the names whose cells were made at the entry (a def: all; a comprehension's block: its own); calm: not within an except suite; pn: pins that every state bears; xe: what is wanted of an exception that leaves the code -/
structure Cx where
  prog : Program
  w : World
  K : PySem.W.Frag
  mg : Str → Option Value
  base : Heap
  A : Around
  N : List Str
  s_0 : Shared
  H_0 : Hp
  env : Env
  outer : List Env
  stack : List Env
  ex : List Addr
  fn : Str → Bool
  calm : Bool
  pn : List (Addr × Obj)
  xe : Value → Shared → Prop
/-- the callers' frames -/
def frs (l : List Env) : List Addr := l.filterMap (·.frame)
abbrev Cx.fs (X : Cx) : List Addr := frs X.outer
def Vis (sc : Scope) (x : Str) : Prop := sc.names.lookup x = some .local ∨ sc.names.lookup x = some .cell ∨ sc.names.lookup x = some .free
def Loc (sc : Scope) (x : Str) : Prop := sc.names.lookup x = some .local ∨ sc.names.lookup x = some .cell
def Look (env : Env) (h : Heap) (m : Str → Option Value) (x : Str) (u : Value) : Prop :=
  (env.kindOf x = some .local ∧ m x = some u) ∨ ((env.kindOf x = some .cell ∨ env.kindOf x = some .free) ∧ ∃ c, env.cells.lookup x = some c ∧ h.IsCell c (some u))
structure Cx.Ok (X : Cx) : Prop where
  mod : Mod X.K X.mg X.base
  kind : X.env.scope.kind = .function
  glob : X.env.globals = mainGlobals
  blt : X.env.builtins = builtinsNs
  above : X.s_0.heap.objs.size ≤ X.env.locals
  inj : ∀ x y c, X.env.cells.lookup x = some c → X.env.cells.lookup y = some c → x = y
  has : ∀ x, (X.env.kindOf x = some .cell ∨ X.env.kindOf x = some .free) → ∃ c, X.env.cells.lookup x = some c
  cab : ∀ x c, X.fn x = true → X.env.cells.lookup x = some c → X.s_0.heap.objs.size ≤ c
  hd : X.calm = true → X.A.handled = none
  frames : X.A.frames = some X.stack
  stk : X.stack = X.outer ∨ (X.stack = X.env :: X.outer ∧ X.env.frame = some X.env.locals)
  exf : ∀ b ∈ X.ex, b ≠ X.env.locals ∧ ∀ x c, X.env.cells.lookup x = some c → c ≠ b
  bs : ∀ b o, X.base.get? b = some o → X.s_0.heap.get? b = some o ∧ X.H_0 b = none
  bsz : X.base.objs.size ≤ X.s_0.heap.objs.size
  noex : ∀ b o, X.base.get? b = some o → b ∉ X.ex
  exfs : ∀ b ∈ X.ex, b ∉ X.fs
  funs : X.s_0.heap.FunFrames X.base X.outer
  frf : ∀ b ∈ X.fs, X.H_0 b = none
structure Inv (X : Cx) (pins : List (Addr × Obj)) (σ : List (Option V)) (H : Hp) (s : Shared) : Prop where
  ok : X.Ok
  os : s.os = X.s_0.os
  bare : AllBare s.gens
  base : Un X.fs X.ex X.H_0 H X.s_0.heap s.heap
  loc : ∃ m, s.heap.Ns X.env.locals m ∧ ∀ (i : Nat) (x : Str) (v : V), X.N[i]? = some x → σ[i]? = some (some v) → Vis X.env.scope x → ∃ u, RelV v u ∧ Look X.env s.heap m x u
  cell : ∀ x c, X.env.cells.lookup x = some c → ∃ v, s.heap.IsCell c v
  free : H X.env.locals = none
  freeC : ∀ x c, X.env.cells.lookup x = some c → H c = none
  pin : ∀ p ∈ X.pn ++ pins, s.heap.get? p.1 = some p.2 ∧ H p.1 = none ∧ p.1 ≠ X.env.locals ∧ p.1 ∉ X.fs ∧ ∀ v, p.2.data ≠ .cell v
  hok : HOk X.prog X.w H s.heap
  len : σ.length = X.N.length
section
variable {X : Cx} {pins : List (Addr × Obj)} {σ : List (Option V)} {H H' : Hp} {s : Shared} {h' : Heap}
theorem Cx.Ok.nofr (ok : X.Ok) {b : Addr} {o : Obj} (e : X.base.get? b = some o) : b ∉ X.fs := fun hb => by
  have := (ok.funs.mem hb).1
  rw [e] at this; cases this
theorem Inv.bs (I : Inv X pins σ H s) : ∀ b o, X.base.get? b = some o → s.heap.get? b = some o ∧ H b = none := fun b o e =>
  ⟨I.base.keep b o (I.ok.bs b o e).1 (I.ok.bs b o e).2 (I.ok.nofr e) (I.ok.noex b o e), I.base.free b o (I.ok.bs b o e).1 (I.ok.bs b o e).2 (I.ok.noex b o e)⟩
theorem Inv.bk (I : Inv X pins σ H s) : ∀ b o, X.base.get? b = some o → s.heap.get? b = some o := fun b o e => (I.bs b o e).1
theorem Inv.mod (I : Inv X pins σ H s) : Mod X.K X.mg X.base := I.ok.mod
theorem Inv.kIn (I : Inv X pins σ H s) : X.K.In s.heap := I.ok.mod.kin.keeps I.bk
/-- the frame over the base: for OpenK's rules (K.In X.base is I.mod.kin) -/
theorem Inv.fr (I : Inv X pins σ H s) : ∃ m, Fr X.base X.env.locals s.heap m :=
  let ⟨m, hn, _⟩ := I.loc
  ⟨m, hn, I.bk, Nat.le_trans I.ok.bsz I.ok.above⟩
theorem Inv.lt (I : Inv X pins σ H s) : X.env.locals < s.heap.objs.size := let ⟨_, hn, _⟩ := I.loc; hn.lt
theorem Inv.sz (I : Inv X pins σ H s) : X.s_0.heap.objs.size ≤ s.heap.objs.size := Nat.le_trans I.ok.above (Nat.le_of_lt I.lt)
theorem Inv.nofs (I : Inv X pins σ H s) {a : Addr} (h : s.heap.objs.size ≤ a) : a ∉ X.fs := fun hb => by
  obtain ⟨_, o, ho, _⟩ := I.ok.funs.mem hb
  exact absurd (Nat.lt_of_lt_of_le (Heap.lt_size ho) (Nat.le_trans I.sz h)) (Nat.lt_irrefl _)
theorem Inv.cne (I : Inv X pins σ H s) : ∀ x c, X.env.cells.lookup x = some c → c ≠ X.env.locals := fun x c e z => by
  obtain ⟨v, o, ho, hd⟩ := I.cell x c e
  obtain ⟨m, ⟨o', es, ep, ho', hd', _⟩, _⟩ := I.loc
  rw [z, ho'] at ho; cases ho; rw [hd'] at hd; cases hd
theorem Inv.funs (I : Inv X pins σ H s) : s.heap.FunFrames X.base X.outer := by
  have all : ∀ (l : List Env), (∀ b ∈ frs l, b ∈ X.fs) → X.s_0.heap.FunFrames X.base l → s.heap.FunFrames X.base l := by
    intro l
    induction l with
    | nil => intro _ _; trivial
    | cons env r ih =>
      intro hs hl
      obtain ⟨hk, ⟨L, o, hf, hn, ho, hd⟩, hr⟩ := hl
      have hL : L ∈ X.fs := hs L (by unfold frs; rw [List.filterMap_cons, hf]; exact List.mem_cons_self)
      obtain ⟨sl, e⟩ := I.base.slot L o ho (I.ok.frf L hL) hL fun z => I.ok.exfs L z hL
      exact ⟨hk, ⟨L, _, hf, hn, e, hd⟩, ih (fun b hb => hs b (by unfold frs; rw [List.filterMap_cons, hf]; exact List.mem_cons_of_mem _ hb)) hr⟩
  exact all X.outer (fun _ hb => hb) I.ok.funs
/-- the frames that run, for a call -/
theorem Inv.stack (I : Inv X pins σ H s) : s.heap.FunFrames X.base X.stack := by
  rcases I.ok.stk with e | ⟨e, hf⟩
  · rw [e]; exact I.funs
  · rw [e]
    obtain ⟨m, hn, _⟩ := I.loc
    refine .cons (by rw [I.ok.kind]; decide) hf hn ?_ I.funs
    exact Heap.get?_none_of_le (Nat.le_trans I.ok.bsz I.ok.above)
theorem Inv.stkSub (I : Inv X pins σ H s) : ∀ b ∈ frs X.stack, b ∈ X.env.locals :: X.fs := fun b hb => by
  rcases I.ok.stk with e | ⟨e, hf⟩
  · rw [e] at hb; exact List.mem_cons_of_mem _ hb
  · rw [e] at hb
    unfold frs at hb
    rw [List.filterMap_cons, hf] at hb
    exact hb
theorem Inv.stkFree (I : Inv X pins σ H s) : ∀ b ∈ frs X.stack, H b = none := fun b hb => by
  rcases List.mem_cons.mp (I.stkSub b hb) with e | hb
  · rw [e]; exact I.free
  · obtain ⟨_, o, ho, _⟩ := I.ok.funs.mem hb
    exact I.base.free b o ho (I.ok.frf b hb) fun z => I.ok.exfs b z hb
/-- THE STEP: the untracked objects but the frame and the records at ch are kept (the callers' frames up to slots), the frame's map is kept, the new abstract heap is held -/
theorem Inv.step {g' : Array GenState} {t' : Nat} {d' : Drawn} {ch : List Addr} (I : Inv X pins σ H s)
    (hch : ∀ b ∈ ch, (b ∈ X.ex ∨ X.s_0.heap.objs.size ≤ b) ∧ b ≠ X.env.locals ∧ (∀ x c, X.env.cells.lookup x = some c → c ≠ b) ∧ ∀ p ∈ X.pn ++ pins, p.1 ≠ b)
    (keep : ∀ b o, b ≠ X.env.locals → b ∉ X.fs → b ∉ ch → s.heap.get? b = some o → H b = none → h'.get? b = some o)
    (slot : ∀ b o, b ≠ X.env.locals → b ∈ X.fs → b ∉ ch → s.heap.get? b = some o → H b = none → ∃ sl, h'.get? b = some { o with slots := sl }) (free : ∀ b o, b ∉ ch → s.heap.get? b = some o → H b = none → H' b = none)
    (there : ∀ b o, b ∉ ch → s.heap.get? b = some o → ∃ o', h'.get? b = some o')
    (tups : ∀ b xs, H b = some (.tup xs) → H' b = some (.tup xs)) (frzs : ∀ b o u, H b = some (.frz o u) → H' b = some (.frz o u)) (tbls : ∀ b ps, H b = some (.tbl ps) → ∃ more, H' b = some (.tbl (ps ++ more)))
    (ns : ∀ m, s.heap.Ns X.env.locals m → h'.Ns X.env.locals m) (hok : HOk X.prog X.w H' h') (hg : AllBare g') :
    Inv X pins σ H' { s with heap := h', gens := g', drawn := d', toks := t' } := by
  have neL : ∀ b o, X.s_0.heap.get? b = some o → b ≠ X.env.locals := fun b o e => Nat.ne_of_lt (Nat.lt_of_lt_of_le (Heap.lt_size e) I.ok.above)
  have neC : ∀ b o, X.s_0.heap.get? b = some o → b ∉ X.ex → b ∉ ch := fun b o e hx hb => by
    rcases (hch b hb).1 with z | z
    · exact hx z
    · exact absurd (Nat.lt_of_lt_of_le (Heap.lt_size e) z) (Nat.lt_irrefl _)
  have cellK : ∀ x c, X.env.cells.lookup x = some c → ∀ v, s.heap.IsCell c v → h'.IsCell c v := fun x c e v ⟨o, ho, hd⟩ => by
    have nch : c ∉ ch := fun z => (hch c z).2.2.1 x c e rfl
    by_cases hc : c ∈ X.fs
    · obtain ⟨sl, q⟩ := slot c o (I.cne x c e) hc nch ho (I.freeC x c e)
      exact ⟨_, q, hd⟩
    · exact ⟨o, keep c o (I.cne x c e) hc nch ho (I.freeC x c e), hd⟩
  refine ⟨I.ok, I.os, hg, ⟨fun b o e n hb hx => ?_, fun b o e n hb hx => ?_, fun b o e n hx => ?_, fun b o e hx => ?_, fun b xs e => tups b xs (I.base.tups b xs e), fun b o xs e => frzs b o xs (I.base.frzs b o xs e), fun b ps e => ?_⟩, ?_, fun x c e => ?_, ?_, fun x c e => ?_, fun p hp => ?_, hok, I.len⟩
  · exact keep b o (neL b o e) hb (neC b o e hx) (I.base.keep b o e n hb hx) (I.base.free b o e n hx)
  · obtain ⟨sl, e1⟩ := I.base.slot b o e n hb hx
    obtain ⟨sl', e2⟩ := slot b _ (neL b o e) hb (neC b o e hx) e1 (I.base.free b o e n hx)
    exact ⟨sl', e2⟩
  · obtain ⟨o', e1⟩ := I.base.there b o e hx
    exact free b o' (neC b o e hx) e1 (I.base.free b o e n hx)
  · obtain ⟨o', e1⟩ := I.base.there b o e hx
    exact there b o' (neC b o e hx) e1
  · obtain ⟨m1, e1⟩ := I.base.tbls b ps e
    obtain ⟨m2, e2⟩ := tbls b _ e1
    exact ⟨m1 ++ m2, by rw [e2, Array.append_assoc]⟩
  · obtain ⟨m, hn, hl⟩ := I.loc
    refine ⟨m, ns m hn, fun i x v e1 e2 e3 => ?_⟩
    obtain ⟨u, r, l⟩ := hl i x v e1 e2 e3
    refine ⟨u, r, ?_⟩
    rcases l with l | ⟨k, c, e, z⟩
    · exact .inl l
    · exact .inr ⟨k, c, e, cellK x c e _ z⟩
  · obtain ⟨v, z⟩ := I.cell x c e
    exact ⟨v, cellK x c e v z⟩
  · obtain ⟨m, ⟨o, _, _, ho, _⟩, _⟩ := I.loc
    exact free _ o (fun z => (hch _ z).2.1 rfl) ho I.free
  · obtain ⟨v, o, ho, hd⟩ := I.cell x c e
    exact free c o (fun z => (hch c z).2.2.1 x c e rfl) ho (I.freeC x c e)
  · obtain ⟨e, n, ne, nf, d⟩ := I.pin p hp
    have nch : p.1 ∉ ch := fun z => (hch p.1 z).2.2.2 p hp rfl
    exact ⟨keep p.1 p.2 ne nf nch e n, free p.1 p.2 nch e n, ne, nf, d⟩
/-- .. where the frame's own object is kept too -/
theorem Inv.un {t' : Nat} (I : Inv X pins σ H s) (u : Un X.fs [] H H' s.heap h') (hok : HOk X.prog X.w H' h') : Inv X pins σ H' { s with heap := h', toks := t' } := by
  obtain ⟨m, ⟨o, es, ep, ho, r⟩, _⟩ := id I.loc
  obtain ⟨sl, hL⟩ := u.any ho I.free (by simp)
  exact I.step (g' := s.gens) (d' := s.drawn) (ch := []) (fun _ z => nomatch z) (fun b o _ hb _ e n => u.keep b o e n hb (by simp)) (fun b o _ hb _ e n => u.slot b o e n hb (by simp)) (fun b o _ e n => u.free b o e n (by simp)) (fun b o _ e => u.there b o e (by simp)) u.tups u.frzs u.tbls (fun m' hm => by
    obtain ⟨o', es', ep', ho', r'⟩ := hm
    rw [ho] at ho'; cases ho'
    exact ⟨_, es', ep', hL, r'⟩) hok I.bare
/-- behind a call (or a comprehension's block): the slots of this frame may have changed too, the records at ch may have turned -/
theorem Inv.call {g' : Array GenState} {t' : Nat} {d' : Drawn} {ch : List Addr} (I : Inv X pins σ H s) (u : Un (frs X.stack) ch H H' s.heap h') (hok : HOk X.prog X.w H' h') (hg : AllBare g')
    (hch : ∀ b ∈ ch, (b ∈ X.ex ∨ X.s_0.heap.objs.size ≤ b) ∧ b ≠ X.env.locals ∧ (∀ x c, X.env.cells.lookup x = some c → c ≠ b) ∧ ∀ p ∈ X.pn ++ pins, p.1 ≠ b) :
    Inv X pins σ H' { s with heap := h', gens := g', drawn := d', toks := t' } := by
  obtain ⟨m, ⟨o, es, ep, ho, r⟩, _⟩ := id I.loc
  obtain ⟨sl, hL⟩ := u.any ho I.free fun z => (hch _ z).2.1 rfl
  exact I.step (ch := ch) hch (fun b o hL hb hc e n => u.keep b o e n (fun z => (List.mem_cons.mp (I.stkSub b z)).elim hL hb) hc) (fun b o _ _ hc e n => u.any e n hc) (fun b o hc e n => u.free b o e n hc) (fun b o hc e => u.there b o e hc) u.tups u.frzs u.tbls (fun m' hm => by
    obtain ⟨o', es', ep', ho', r'⟩ := hm
    rw [ho] at ho'; cases ho'
    exact ⟨_, es', ep', hL, r'⟩) hok hg
/-- an untracked record of ours (an iterator) has turned -/
theorem Inv.turned {t' : Nat} {it : Addr} (I : Inv X pins σ H s) (k : ∀ b o, b ≠ it → s.heap.get? b = some o → h'.get? b = some o) (hn : H it = none) (hL : it ≠ X.env.locals)
    (h1 : it ∈ X.ex ∨ X.s_0.heap.objs.size ≤ it) (h2 : ∀ x c, X.env.cells.lookup x = some c → c ≠ it) (h3 : ∀ p ∈ X.pn ++ pins, p.1 ≠ it) : Inv X pins σ H { s with heap := h', toks := t' } := by
  have nit : ∀ b u, H b = some u → b ≠ it := fun b u e z => by rw [z, hn] at e; cases e
  refine I.step (g' := s.gens) (d' := s.drawn) (ch := [it]) (fun b hb => ?_) (fun b o _ _ hc e _ => k b o (fun z => hc (by simp [z])) e) (fun b o _ _ hc e _ => ⟨o.slots, k b o (fun z => hc (by simp [z])) e⟩) (fun _ _ _ _ n => n)
    (fun b o hc e => ⟨o, k b o (fun z => hc (by simp [z])) e⟩) (fun _ _ e => e) (fun _ _ _ e => e) (fun b ps e => ⟨#[], by rw [e]; simp⟩) (fun m hm => ?_) (fun b u e => ?_) I.bare
  · have e : b = it := by simpa using hb
    subst e
    exact ⟨h1, hL, h2, h3⟩
  · obtain ⟨o, es, ep, ho, r⟩ := hm
    exact ⟨o, es, ep, k _ o (Ne.symm hL) ho, r⟩
  · refine (I.hok b u e).stay (fun c v hc q => k c v ?_ q) (fun _ q => q) fun _ _ q => q
    rcases hc with z | z
    · rw [z]; exact nit b u e
    · exact nit c _ z
theorem Inv.tok (I : Inv X pins σ H s) (t : Nat) : Inv X pins σ H { s with toks := t } := I.un (h' := s.heap) (t' := t) Un.refl I.hok
/-- all objects kept -/
theorem Inv.kept {t' : Nat} (I : Inv X pins σ H s) (k : ∀ b u, s.heap.get? b = some u → h'.get? b = some u) : Inv X pins σ H { s with heap := h', toks := t' } := I.un (Un.kept k) (I.hok.kept k)
/-- a new object laid and tracked -/
theorem Inv.laid {a : Addr} {o : HO} {t' : Nat} (I : Inv X pins σ H s) (k : ∀ b u, s.heap.get? b = some u → h'.get? b = some u) (hp : s.heap.objs.size ≤ a) (new : ObjOk X.prog X.w (upd H a o) h' a o) :
    Inv X pins σ (upd H a o) { s with heap := h', toks := t' } := I.un (Un.laid k hp (I.hok.fresh hp)) (I.hok.laid k hp new)
/-- an object written -/
theorem Inv.write {x e : Addr} {o : HO} {t' : Nat} (I : Inv X pins σ H s) (mu : Mut (H x)) (he : e = x ∨ H e = some (.own x)) (k : ∀ b u, b ≠ e → s.heap.get? b = some u → h'.get? b = some u) (heo : ∃ u, h'.get? e = some u)
    (new : ObjOk X.prog X.w (upd H x o) h' x o) : Inv X pins σ (upd H x o) { s with heap := h', toks := t' } := I.un (Un.write mu he k heo) (I.hok.write mu he k heo new)
/-- forgetting slots, pins -/
theorem Inv.weak {σ' : List (Option V)} (I : Inv X pins σ H s) (hl : σ'.length = σ.length) (w : ∀ (i : Nat) v, σ'[i]? = some (some v) → σ[i]? = some (some v)) : Inv X pins σ' H s :=
  ⟨I.ok, I.os, I.bare, I.base, let ⟨m, hn, hl'⟩ := I.loc; ⟨m, hn, fun i x v e1 e2 e3 => hl' i x v e1 (w i v e2) e3⟩, I.cell, I.free, I.freeC, I.pin, I.hok, hl.trans I.len⟩
theorem Inv.pins_of {pins' : List (Addr × Obj)} (I : Inv X pins σ H s) (h : ∀ p ∈ pins', s.heap.get? p.1 = some p.2 ∧ H p.1 = none ∧ p.1 ≠ X.env.locals ∧ p.1 ∉ X.fs ∧ ∀ v, p.2.data ≠ .cell v) : Inv X pins' σ H s :=
  ⟨I.ok, I.os, I.bare, I.base, I.loc, I.cell, I.free, I.freeC, fun p hp => (List.mem_append.mp hp).elim (fun z => I.pin p (List.mem_append_left _ z)) (h p), I.hok, I.len⟩
theorem nodup_ix {N : List Str} (hN : N.Nodup) {i j : Nat} {x : Str} (a : N[i]? = some x) (b : N[j]? = some x) : i = j := by
  obtain ⟨h1, e1⟩ := List.getElem?_eq_some_iff.mp a
  obtain ⟨h2, e2⟩ := List.getElem?_eq_some_iff.mp b
  exact (List.getElem_inj hN).mp (e1.trans e2.symm)
/-- a name is stored; what changed -/
theorem store_ok2 {M : Model} {A : Around} {E : Value → Shared → Prop} {i : Nat} {x : Str} {v : V} {u : Value} {Q : Unit → Shared → Prop} (I : Inv X pins σ H s) (hN : X.N.Nodup) (hi : X.N[i]? = some x) (hx : Loc X.env.scope x) (r : RelV v u)
    (h : ∀ s', Inv X pins (σ.set i (some v)) H s' → (∃ a, Heap.SameBut a s.heap s'.heap ∧ (a = X.env.locals ∨ X.env.cells.lookup x = some a)) → Q () s') (hf : X.fn x = true ∨ X.env.scope.names.lookup x = some .local := by first | exact .inl rfl | exact .inr rfl | assumption) : wpAny M A (storeName X.env x u) Q E s := by
  obtain ⟨m, hn, hl⟩ := id I.loc
  have hcls : (X.env.scope.kind == .class || (X.env.scope.kind == .module && X.env.locals != X.env.globals)) = false := by rw [I.ok.kind]; rfl
  have hiσ : i < σ.length := by rw [I.len]; exact (List.getElem?_eq_some_iff.mp hi).1
  have cne := I.cne
  have tracked : ∀ {a : Addr} {h' : Heap}, (∃ o, s.heap.get? a = some o ∧ H a = none) → Heap.SameBut a s.heap h' → HOk X.prog X.w H h' := fun {a h'} ha hs b ob e => by
    obtain ⟨_, _, hfree⟩ := ha
    refine (I.hok b ob e).stay (fun c w' hc q => (hs.2 c ?_).trans q) (fun _ q => q) fun _ _ q => q
    rintro rfl
    rcases hc with rfl | hc
    · rw [hfree] at e; cases e
    · rw [hfree] at hc; cases hc
  rcases hx with hk | hk
  · refine wpAny_storeName_local hk hn (fun h' hn' hs => ?_) hcls
    obtain ⟨oL, _, _, hoL, _⟩ := id hn
    refine h _ ⟨I.ok, I.os, I.bare, ⟨fun b o e n hb hx => ?_, fun b o e n hb hx => ?_, I.base.free, fun b o e hx => ?_, I.base.tups, I.base.frzs, I.base.tbls⟩, ⟨_, hn', fun j y v' e1 e2 e3 => ?_⟩, fun y c e => ?_, I.free, I.freeC, fun p hp => ?_, tracked ⟨oL, hoL, I.free⟩ hs, by simpa using I.len⟩ ⟨_, hs, .inl rfl⟩
    · exact (hs.2 b (Nat.ne_of_lt (Nat.lt_of_lt_of_le (Heap.lt_size e) I.ok.above))).trans (I.base.keep b o e n hb hx)
    · obtain ⟨sl, e1⟩ := I.base.slot b o e n hb hx
      exact ⟨sl, (hs.2 b (Nat.ne_of_lt (Nat.lt_of_lt_of_le (Heap.lt_size e) I.ok.above))).trans e1⟩
    · obtain ⟨o', e1⟩ := I.base.there b o e hx
      exact ⟨o', (hs.2 b (Nat.ne_of_lt (Nat.lt_of_lt_of_le (Heap.lt_size e) I.ok.above))).trans e1⟩
    · by_cases hj : j = i
      · subst hj
        rw [hi] at e1; cases e1
        rw [List.getElem?_set_self hiσ] at e2
        cases e2
        exact ⟨u, r, .inl ⟨hk, by simp⟩⟩
      · rw [List.getElem?_set_ne (Ne.symm hj)] at e2
        obtain ⟨u', r', q⟩ := hl j y v' e1 e2 e3
        refine ⟨u', r', ?_⟩
        rcases q with ⟨k, e⟩ | ⟨k, c, e, z⟩
        · refine .inl ⟨k, ?_⟩
          have : y ≠ x := fun e => hj (nodup_ix hN e1 (e ▸ hi))
          simp [this, e]
        · exact .inr ⟨k, c, e, z.sameBut hs (cne y c e)⟩
    · obtain ⟨w', z⟩ := I.cell y c e
      exact ⟨w', z.sameBut hs (cne y c e)⟩
    · obtain ⟨e, n, ne, nf, d⟩ := I.pin p hp
      exact ⟨(hs.2 p.1 ne).trans e, n, ne, nf, d⟩
  · have hfn : X.fn x = true := by
      rcases hf with z | z
      · exact z
      · rw [z] at hk; cases hk
    obtain ⟨c, hc⟩ := I.ok.has x (.inl hk)
    obtain ⟨w', z⟩ := I.cell x c hc
    refine wpAny_storeName_cell I.ok.kind hk hc z (fun h' hc' hs => ?_)
    obtain ⟨oc, hoc, hocd⟩ := id z
    refine h { s with heap := h' } ⟨I.ok, I.os, I.bare, ⟨fun b o e n hb hx => ?_, fun b o e n hb hx => ?_, I.base.free, fun b o e hx => ?_, I.base.tups, I.base.frzs, I.base.tbls⟩, ⟨m, hn.sameBut hs (Ne.symm (cne x c hc)), fun j y v' e1 e2 e3 => ?_⟩, fun y c' e => ?_, I.free, I.freeC, fun p hp => ?_, tracked ⟨oc, hoc, I.freeC x c hc⟩ hs, by simpa using I.len⟩ ⟨c, hs, .inr hc⟩
    · exact (hs.2 b (Nat.ne_of_lt (Nat.lt_of_lt_of_le (Heap.lt_size e) (I.ok.cab x c hfn hc)))).trans (I.base.keep b o e n hb hx)
    · obtain ⟨sl, e1⟩ := I.base.slot b o e n hb hx
      exact ⟨sl, (hs.2 b (Nat.ne_of_lt (Nat.lt_of_lt_of_le (Heap.lt_size e) (I.ok.cab x c hfn hc)))).trans e1⟩
    · obtain ⟨o', e1⟩ := I.base.there b o e hx
      exact ⟨o', (hs.2 b (Nat.ne_of_lt (Nat.lt_of_lt_of_le (Heap.lt_size e) (I.ok.cab x c hfn hc)))).trans e1⟩
    · by_cases hj : j = i
      · subst hj
        rw [hi] at e1; cases e1
        rw [List.getElem?_set_self hiσ] at e2
        cases e2
        exact ⟨u, r, .inr ⟨.inl hk, c, hc, hc'⟩⟩
      · rw [List.getElem?_set_ne (Ne.symm hj)] at e2
        obtain ⟨u', r', q⟩ := hl j y v' e1 e2 e3
        refine ⟨u', r', ?_⟩
        rcases q with q | ⟨k, c', e, z'⟩
        · exact .inl q
        · refine .inr ⟨k, c', e, z'.sameBut hs ?_⟩
          rintro rfl
          exact hj (nodup_ix hN e1 (I.ok.inj _ _ _ e hc ▸ hi))
    · by_cases hcc : c' = c
      · subst hcc; exact ⟨_, hc'⟩
      · obtain ⟨w2, z2⟩ := I.cell y c' e
        exact ⟨w2, z2.sameBut hs hcc⟩
    · obtain ⟨e, n, ne, nf, d⟩ := I.pin p hp
      refine ⟨(hs.2 p.1 ?_).trans e, n, ne, nf, d⟩
      intro q
      rw [q, hoc] at e
      have q' : oc = p.2 := Option.some.inj e
      exact d w' (by rw [← q']; exact hocd)
theorem store_ok {M : Model} {A : Around} {E : Value → Shared → Prop} {i : Nat} {x : Str} {v : V} {u : Value} {Q : Unit → Shared → Prop} (I : Inv X pins σ H s) (hN : X.N.Nodup) (hi : X.N[i]? = some x) (hx : Loc X.env.scope x) (r : RelV v u)
    (h : ∀ s', Inv X pins (σ.set i (some v)) H s' → Q () s') (hf : X.fn x = true ∨ X.env.scope.names.lookup x = some .local := by first | exact .inl rfl | exact .inr rfl | assumption) : wpAny M A (storeName X.env x u) Q E s :=
  store_ok2 I hN hi hx r (fun s' I' _ => h s' I') hf
/-- behind a call or a block, the state as it is -/
theorem Inv.call' {s' : Shared} {ch : List Addr} (I : Inv X pins σ H s) (ho : s'.os = s.os) (u : Un (frs X.stack) ch H H' s.heap s'.heap) (hok : HOk X.prog X.w H' s'.heap) (hg : AllBare s'.gens)
    (hch : ∀ b ∈ ch, (b ∈ X.ex ∨ X.s_0.heap.objs.size ≤ b) ∧ b ≠ X.env.locals ∧ (∀ x c, X.env.cells.lookup x = some c → c ≠ b) ∧ ∀ p ∈ X.pn ++ pins, p.1 ≠ b) : Inv X pins σ H' s' := by
  obtain ⟨h', g', d', t', o'⟩ := s'
  have e : o' = s.os := ho
  subst e
  exact I.call (g' := g') (t' := t') (d' := d') u hok hg hch
end
/-! ### the judgements -/
/-- an exception: its class, its own dict's address (where it has one), the abstract heap behind it -/
abbrev XK := Value → Option Addr → Hp → Prop
abbrev St := List (Option V)
abbrev VK := V → Hp → Prop
/-- an expression's reading; a test's; an argument list's -/
abbrev TE := St → Hp → VK → Prop
abbrev TT := St → Hp → (Bool → Hp → Prop) → Prop
abbrev TA := St → Hp → (List V → Hp → Prop) → Prop
/-- what is wanted behind a statement -/
structure Ends where
  nx : St → Hp → Prop
  rt : VK
  bk : St → Hp → Prop := fun _ _ => False
  ct : St → Hp → Prop := fun _ _ => False
abbrev TS := Ends → St → Hp → Prop
def EP (X : Cx) (pins : List (Addr × Obj)) (σ : St) (Q : VK) (u : Value) (s' : Shared) : Prop := ∃ v H', Inv X pins σ H' s' ∧ RelV v u ∧ Q v H'
def TP (X : Cx) (pins : List (Addr × Obj)) (σ : St) (Q : Bool → Hp → Prop) (b : Bool) (s' : Shared) : Prop := ∃ H', Inv X pins σ H' s' ∧ Q b H'
def AP (X : Cx) (pins : List (Addr × Obj)) (σ : St) (Q : List V → Hp → Prop) (us : List Value) (s' : Shared) : Prop := ∃ vs H', Inv X pins σ H' s' ∧ Vals vs us ∧ Q vs H'
def SP (X : Cx) (pins : List (Addr × Obj)) (D : Ends) (f : Flow) (s' : Shared) : Prop :=
  match f with
  | .next => ∃ σ' H', Inv X pins σ' H' s' ∧ D.nx σ' H'
  | .brk => ∃ σ' H', Inv X pins σ' H' s' ∧ D.bk σ' H'
  | .cont => ∃ σ' H', Inv X pins σ' H' s' ∧ D.ct σ' H'
  | .ret u => ∃ v σ' H', Inv X pins σ' H' s' ∧ RelV v u ∧ D.rt v H'
def PE (X : Cx) (e : Expr) (t : TE) : Prop :=
  ∀ (pins : List (Addr × Obj)) (s : Shared) (σ : St) (H : Hp) (Q : VK), Inv X pins σ H s → t σ H Q → wpAny (model X.prog X.w) X.A (eval e X.env) (EP X pins σ Q) X.xe s
def PT (X : Cx) (e : Expr) (t : TT) : Prop :=
  ∀ (pins : List (Addr × Obj)) (s : Shared) (σ : St) (H : Hp) (Q : Bool → Hp → Prop), Inv X pins σ H s → t σ H Q → wpAny (model X.prog X.w) X.A (isTrue e X.env (eval e X.env)) (TP X pins σ Q) X.xe s
/-- a test whatever its 'whole' is (and, or) -/
def PW (X : Cx) (e : Expr) (t : TT) : Prop :=
  ∀ (whole : Sem Value) (pins : List (Addr × Obj)) (s : Shared) (σ : St) (H : Hp) (Q : Bool → Hp → Prop), Inv X pins σ H s → t σ H Q → wpAny (model X.prog X.w) X.A (isTrue e X.env whole) (TP X pins σ Q) X.xe s
theorem PW.pt {X : Cx} {e : Expr} {t : TT} (h : PW X e t) : PT X e t := h _
/-- an argument list (no star), from the left -/
def PA (X : Cx) (es : List Expr) (t : TA) : Prop :=
  ∀ (pos : Pos) (pins : List (Addr × Obj)) (s : Shared) (σ : St) (H : Hp) (Q : List V → Hp → Prop), Inv X pins σ H s → t σ H Q → wpAny (model X.prog X.w) X.A (spliced (backTo pos (starEach es X.env))) (AP X pins σ Q) X.xe s
def PS (X : Cx) (st : Stmt) (t : TS) : Prop :=
  ∀ (pins : List (Addr × Obj)) (s : Shared) (σ : St) (H : Hp) (D : Ends), Inv X pins σ H s → t D σ H → wpAny (model X.prog X.w) X.A (exec st X.env) (SP X pins D) X.xe s
def PSs (X : Cx) (st : List Stmt) (t : TS) : Prop :=
  ∀ (pins : List (Addr × Obj)) (s : Shared) (σ : St) (H : Hp) (D : Ends), Inv X pins σ H s → t D σ H → wpAny (model X.prog X.w) X.A (execs st X.env) (SP X pins D) X.xe s
/-- weaken the end -/
theorem thn {α : Type} {t : Sem α} {Q Q' : α → Shared → Prop} {M : Model} {A : Around} {E : Value → Shared → Prop} {s : Shared} (h : wpAny M A t Q E s) (hQ : ∀ a s, Q a s → Q' a s) : wpAny M A t Q' E s := wpAny_mono h hQ fun _ _ x => x
end L2
namespace L2
open PySem PySem.Spec PyProof.Rows
section
variable {X : Cx}
/-- two expressions in a row -/
theorem bin {a b : Expr} {ta tb : TE} (ha : PE X a ta) (hb : PE X b tb) {pins : List (Addr × Obj)} {s : Shared} {σ : St} {H : Hp} {R : V → V → Hp → Prop} (I : Inv X pins σ H s) (h : ta σ H fun x H1 => tb σ H1 fun y H2 => R x y H2)
    {α : Type} {Q : α → Shared → Prop} {f : Value → Value → Sem α}
    (hf : ∀ v u s2 x y H2, Inv X pins σ H2 s2 → RelV x v → RelV y u → R x y H2 → wpAny (model X.prog X.w) X.A (f v u) Q X.xe s2) :
    wpAny (model X.prog X.w) X.A (eval a X.env) (fun v s₁ => wpAny (model X.prog X.w) X.A (eval b X.env) (fun u s₂ => wpAny (model X.prog X.w) X.A (f v u) Q X.xe s₂) X.xe s₁) X.xe s := by
  refine thn (ha pins s σ H _ I h) fun v s1 ⟨x, H1, I1, r1, q1⟩ => ?_
  refine thn (hb pins s1 σ H1 _ I1 q1) fun u s2 ⟨y, H2, I2, r2, q2⟩ => ?_
  exact hf v u s2 x y H2 I2 r1 r2 q2
/-! ### names and constants -/
def tVar (i : Nat) : TE := fun σ H Q => ∃ v, σ[i]? = some (some v) ∧ Q v H
def tC (v : V) : TE := fun _ H Q => Q v H
theorem pe_var {i : Nat} {x : Str} {pos : Pos} (hN : X.N[i]? = some x) (hv : Vis X.env.scope x) (hd : (x == ("__debug__" : Str)) = false := by decide) (hcd : (x == ("__classdict__" : Str)) = false := by decide) : PE X (.Name x pos) (tVar i) := by
  intro pins s σ H Q I h
  obtain ⟨v, e, h⟩ := h
  obtain ⟨m, hn, hl⟩ := I.loc
  obtain ⟨u, r, l⟩ := hl i x v hN e hv
  have fin : EP X pins σ Q u s := ⟨v, H, I, r, h⟩
  rcases l with ⟨hk, hm⟩ | ⟨hk, c, hc, hcell⟩
  · exact wpAny_Name (wpAny_loadName_local I.ok.kind hk hn hm fin) hd
  · rcases hk with hk | hk
    · exact wpAny_Name (wpAny_loadName_cell I.ok.kind hk hc hcell fin) hd
    · exact wpAny_Name (wpAny_loadName_free I.ok.kind hk hc hcell fin hcd) hd
theorem pe_int {i j pos} : PE X (.Constant (.int i) j pos) (tC (.int i)) := fun _ _ _ H _ I h => wpAny_Constant_int ⟨.int i, H, I.tok _, ⟨_, rfl⟩, h⟩
theorem pe_bl {b j pos} : PE X (.Constant (.bool b) j pos) (tC (.bl b)) := fun _ _ _ H _ I h => Constant_bool ⟨.bl b, H, I, rfl, h⟩
theorem pe_non {j pos} : PE X (.Constant .none j pos) (tC .non) := fun _ _ _ H _ I h => Constant_none ⟨.non, H, I, rfl, h⟩
theorem pe_str {x j pos} : PE X (.Constant (.str x) j pos) (tC (.str x)) := fun _ _ _ H _ I h => Calls.Constant_str ⟨.str x, H, I.tok _, ⟨_, rfl⟩, h⟩
/-- a global name of the def -/
def Gl (X : Cx) (x : Str) : Prop := X.env.kindOf x = some .globalImplicit
theorem ld_glob {E : Value → Shared → Prop} {pins : List (Addr × Obj)} {s : Shared} {σ : St} {H : Hp} {x : Str} {u : Value} {pos : Pos} {Q : Value → Shared → Prop} (I : Inv X pins σ H s) (hg : Gl X x) (hm : X.mg x = some u) (h : Q u s)
    (hd : (x == ("__debug__" : Str)) = false := by decide) : wpAny (model X.prog X.w) X.A (eval (.Name x pos) X.env) Q E s :=
  Calls.Name_function_global I.ok.kind hg (Calls.loadGlobal_global (by rw [I.ok.glob]; exact I.mod.glob.keeps I.bk) hm h) hd
theorem ld_blt {E : Value → Shared → Prop} {pins : List (Addr × Obj)} {s : Shared} {σ : St} {H : Hp} {x : Str} {u : Value} {pos : Pos} {Q : Value → Shared → Prop} (I : Inv X pins σ H s) (hg : Gl X x) (hm : X.mg x = none) (hv : bootBuiltins x = some u) (h : Q u s)
    (hn : x ≠ "__name__" := by decide) (hd : (x == ("__debug__" : Str)) = false := by decide) : wpAny (model X.prog X.w) X.A (eval (.Name x pos) X.env) Q E s := by
  obtain ⟨mb, h1, h2⟩ := I.mod.blt
  exact Calls.Name_function_global I.ok.kind hg (Calls.loadGlobal_builtin (by rw [I.ok.glob]; exact I.mod.glob.keeps I.bk) hm (by rw [I.ok.blt]; exact h1.keeps I.bk) ((h2 x hn).trans hv) h) hd
/-- a module's constant, a class, a function, as a value -/
theorem pe_glob {x : Str} {v : V} {u : Value} {pos : Pos} (hg : Gl X x) (hm : X.mg x = some u) (r : RelV v u) (hd : (x == ("__debug__" : Str)) = false := by decide) : PE X (.Name x pos) (tC v) :=
  fun _ _ _ H _ I h => ld_glob I hg hm ⟨v, H, I, r, h⟩ hd
/-! ### arithmetic -/
variable {a b : Expr} {ta tb : TE} {pos : Pos}
/-! ### comparisons -/
def PC (X : Cx) (op : CmpOp) (a b : Expr) (t : TE) : Prop :=
  ∀ (pins : List (Addr × Obj)) (s : Shared) (σ : St) (H : Hp) (Q : VK), Inv X pins σ H s → t σ H Q →
    wpAny (model X.prog X.w) X.A (eval a X.env) (fun v s₁ => wpAny (model X.prog X.w) X.A (eval b X.env) (fun u s₂ => wpAny (model X.prog X.w) X.A (compareOp op v u) (EP X pins σ Q) X.xe s₂) X.xe s₁) X.xe s
theorem nobehind (b : Expr) {op : CmpOp} (h : op ≠ .In) (h2 : op ≠ .NotIn) : behindInMarks op b = false := by
  have e1 : (op == CmpOp.In) = false := by cases op <;> first | rfl | exact absurd rfl h
  have e2 : (op == CmpOp.NotIn) = false := by cases op <;> first | rfl | exact absurd rfl h2
  cases b <;> simp [behindInMarks, e1, e2]
/-- is None -/
def tIsN (ta : TE) : TE := fun σ H Q => ta σ H fun x H1 => Q (.bl (decide (x = .non))) H1
def tNotN (ta : TE) : TE := fun σ H Q => ta σ H fun x H1 => Q (.bl (!decide (x = .non))) H1
theorem RelV.none_iff {x : V} {v : Value} (r : RelV x v) : (v == Value.none) = decide (x = .non) := by
  cases x with
  | non => cases r; rfl
  | bl _ => cases r; rfl
  | int _ => obtain ⟨t, rfl⟩ := r; rfl
  | str _ => obtain ⟨t, rfl⟩ := r; rfl
  | byt _ => obtain ⟨t, rfl⟩ := r; rfl
  | flt _ => obtain ⟨t, rfl⟩ := r; rfl
  | ref _ => cases r; rfl
  | ty _ => cases r; rfl
theorem pc_isN {j pos'} (ha : PE X a ta) : PC X .Is a (.Constant .none j pos') (tIsN ta) := by
  intro pins s σ H Q I h
  refine thn (ha pins s σ H _ I h) fun v s1 ⟨x, H1, I1, r1, q1⟩ => ?_
  exact Constant_none (is_none_gen ⟨.bl _, H1, I1, by rw [r1.none_iff]; rfl, q1⟩)
theorem pc_notN {j pos'} (ha : PE X a ta) : PC X .IsNot a (.Constant .none j pos') (tNotN ta) := by
  intro pins s σ H Q I h
  refine thn (ha pins s σ H _ I h) fun v s1 ⟨x, H1, I1, r1, q1⟩ => ?_
  exact Constant_none (isnot_none_gen ⟨.bl _, H1, I1, by rw [r1.none_iff]; rfl, q1⟩)
/-- a comparison as a value, as a test -/
def tB (t : TE) : TT := fun σ H Q => t σ H fun x H1 => ∃ c, x = .bl c ∧ Q c H1
theorem pe_cmp {op : CmpOp} {t : TE} (h : PC X op a b t) (h1 : behindInMarks op b = false := by first | exact nobehind _ (by decide) (by decide) | rfl) : PE X (.Compare a [op] [b] pos) t := fun pins s σ H Q I hw => wpAny_Compare1 (h pins s σ H Q I hw) h1
theorem pt_cmp {op : CmpOp} {t : TE} (h : PC X op a b t) (h1 : behindInMarks op b = false := by first | exact nobehind _ (by decide) (by decide) | rfl) : PT X (.Compare a [op] [b] pos) (tB t) := by
  intro pins s σ H Q I hw
  refine wpAny_isTrue_Compare1 (thn (h pins s σ H _ I hw) fun v s1 h1 => thn h1 fun u s2 h2 => thn h2 fun c s3 ⟨x, H1, I1, r1, q1⟩ => ?_) h1
  obtain ⟨d, rfl, q⟩ := q1
  cases r1
  exact wpAny_truthy_bool ⟨H1, I1, q⟩
/-- an expression whose value is a bool, as a test -/
theorem pt_val {e : Expr} {t : TE} (h : PE X e t) (he : ∀ whole, isTrue e X.env whole = (do let v ← whole; standAt e.pos; holding [v] (truthy v)) := by intro _; rfl) : PT X e (tB t) := by
  intro pins s σ H Q I hw
  refine isTrue_plain (thn (h pins s σ H _ I hw) fun v s1 ⟨x, H1, I1, r1, q1⟩ => ?_) (he _)
  obtain ⟨d, rfl, q⟩ := q1
  cases r1
  exact wpAny_truthy_bool ⟨H1, I1, q⟩
/-! ### and, or, not -/
variable {tA tB' : TT} {rest : List Expr}
def tAnd (t u : TT) : TT := fun σ H Q => t σ H fun c H1 => if c = true then u σ H1 Q else Q false H1
def tOr (t u : TT) : TT := fun σ H Q => t σ H fun c H1 => if c = true then Q true H1 else u σ H1 Q
def tNot (t : TT) : TT := fun σ H Q => t σ H fun c H1 => Q (!c) H1
theorem pw_and1 (ha : PT X a tA) : PW X (.BoolOp .And [a] pos) tA := by
  intro wh pins s σ H Q I h
  refine isTrue_and (thn (ha pins s σ H Q I h) fun c s1 e => ?_)
  cases c with
  | true => exact isTrue_and_nil e
  | false => exact e
theorem pw_or1 (ha : PT X a tA) : PW X (.BoolOp .Or [a] pos) tA := by
  intro wh pins s σ H Q I h
  refine isTrue_or (thn (ha pins s σ H Q I h) fun c s1 e => ?_)
  cases c with
  | false => exact isTrue_or_nil e
  | true => exact e
theorem pw_and (ha : PT X a tA) (hb : PW X (.BoolOp .And (b :: rest) pos) tB') : PW X (.BoolOp .And (a :: b :: rest) pos) (tAnd tA tB') := by
  intro wh pins s σ H Q I h
  refine isTrue_and (thn (ha pins s σ H _ I h) fun c s1 ⟨H1, I1, q1⟩ => ?_)
  cases c with
  | true => exact hb wh pins s1 σ H1 Q I1 q1
  | false => exact ⟨H1, I1, q1⟩
theorem pw_or (ha : PT X a tA) (hb : PW X (.BoolOp .Or (b :: rest) pos) tB') : PW X (.BoolOp .Or (a :: b :: rest) pos) (tOr tA tB') := by
  intro wh pins s σ H Q I h
  refine isTrue_or (thn (ha pins s σ H _ I h) fun c s1 ⟨H1, I1, q1⟩ => ?_)
  cases c with
  | true => exact ⟨H1, I1, q1⟩
  | false => exact hb wh pins s1 σ H1 Q I1 q1
theorem pt_not (ha : PT X a tA) : PT X (.UnaryOp .Not a pos) (tNot tA) := by
  intro pins s σ H Q I h
  exact isTrue_not (ha pins s σ H (fun c H1 => Q (!c) H1) I h)
/-- .. as values (bools) -/
def tAndV (ta tb : TE) : TE := fun σ H Q => ta σ H fun x H1 => ∃ c, x = .bl c ∧ if c = true then tb σ H1 Q else Q (.bl false) H1
def tNotV (ta : TE) : TE := fun σ H Q => ta σ H fun x H1 => ∃ c, x = .bl c ∧ Q (.bl (!c)) H1
theorem pe_one {op} {t : TE} (h : PE X a t) : PE X (.BoolOp op [a] pos) t := fun pins s σ H Q I hw => BoolOp_one (h pins s σ H Q I hw)
theorem pe_and (ha : PE X a ta) (hb : PE X (.BoolOp .And (b :: rest) pos) tb) : PE X (.BoolOp .And (a :: b :: rest) pos) (tAndV ta tb) := by
  intro pins s σ H Q I h
  refine BoolOp_and (thn (ha pins s σ H _ I h) fun v s1 ⟨x, H1, I1, r1, q1⟩ => ?_)
  obtain ⟨c, rfl, q1⟩ := q1
  cases r1
  refine wpAny_truthy_bool ?_
  cases c with
  | true => exact hb pins s1 σ H1 Q I1 q1
  | false => exact ⟨.bl false, H1, I1, rfl, q1⟩
theorem pe_not (ha : PE X a ta) : PE X (.UnaryOp .Not a pos) (tNotV ta) := by
  intro pins s σ H Q I h
  refine UnaryOp_ (thn (ha pins s σ H _ I h) fun v s1 ⟨x, H1, I1, r1, q1⟩ => ?_)
  obtain ⟨c, rfl, q1⟩ := q1
  cases r1
  exact not_of (wpAny_truthy_bool ⟨.bl (!c), H1, I1, rfl, q1⟩)
/-- a if t else b -/
def tIf (t : TT) (ta tb : TE) : TE := fun σ H Q => t σ H fun c H1 => if c = true then ta σ H1 Q else tb σ H1 Q
theorem pe_ifExp {c : Expr} (hc : PT X c tA) (ha : PE X a ta) (hb : PE X b tb) : PE X (.IfExp c a b pos) (tIf tA ta tb) := by
  intro pins s σ H Q I h
  refine wpAny_IfExp (thn (hc pins s σ H _ I h) fun d s1 ⟨H1, I1, q1⟩ => ?_)
  cases d with
  | true => exact ha pins s1 σ H1 Q I1 q1
  | false => exact hb pins s1 σ H1 Q I1 q1
end
end L2
namespace L2
open PySem PySem.Spec PyProof.Rows
/-! ### a list, a tuple that is read: tracked, frozen, or an object of the module -/
def SqL (K : PySem.W.Frag) (H : Hp) (a : Addr) (xs : List V) : Prop :=
  Rd H a (.lst xs) ∨
    ∃ (o : Obj) (its : Array Value) (n : Nat), K.lookup a = some o ∧ o.cls = .type "list" ∧ o.dict = none ∧ o.data = .seq its n ∧ its.size ≤ sizeLine ∧ Vals xs its.toList
def SqT (K : PySem.W.Frag) (H : Hp) (a : Addr) (xs : List V) : Prop :=
  Rd H a (.tup xs) ∨
    ∃ (o : Obj) (its : Array Value) (n : Nat), K.lookup a = some o ∧ o.cls = .type "tuple" ∧ o.data = .seq its n ∧ its.size ≤ sizeLine ∧ Vals xs its.toList
def absV : Value → Option V
  | .none => some .non
  | .bool b => some (.bl b)
  | .int i _ => some (.int i)
  | .str x _ => some (.str x)
  | .bytes b _ => some (.byt b)
  | .float b _ => some (.flt b)
  | .ref a => some (.ref a)
  | .type n => some (.ty n)
  | _ => none
theorem RelV.abs {x : V} {u : Value} (r : RelV x u) : absV u = some x := by
  cases x with
  | non => cases r; rfl
  | bl _ => cases r; rfl
  | int _ => obtain ⟨t, rfl⟩ := r; rfl
  | str _ => obtain ⟨t, rfl⟩ := r; rfl
  | byt _ => obtain ⟨t, rfl⟩ := r; rfl
  | flt _ => obtain ⟨t, rfl⟩ := r; rfl
  | ref _ => cases r; rfl
  | ty _ => cases r; rfl
theorem RelV.inj {x y : V} {u : Value} (r : RelV x u) (q : RelV y u) : x = y := Option.some.inj (r.abs.symm.trans q.abs)
theorem Vals.inj : ∀ {xs ys : List V} {us : List Value}, Vals xs us → Vals ys us → xs = ys
  | _, _, _, .nil, .nil => rfl
  | _, _, _, .cons r t, .cons r' t' => by rw [r.inj r', Vals.inj t t']
section
variable {X : Cx} {pins : List (Addr × Obj)} {σ : St} {H : Hp} {s : Shared} {a : Addr} {xs ys : List V}
theorem SqL.of {K : PySem.W.Frag} (h : H a = some (.lst xs)) : SqL K H a xs := .inl (.inl h)
theorem SqT.of {K : PySem.W.Frag} (h : H a = some (.tup xs)) : SqT K H a xs := .inl (.inl h)
theorem Inv.list (I : Inv X pins σ H s) (h : SqL X.K H a xs) : ∃ its : List Value, Vals xs its ∧ PlainL s.heap a its.toArray ∧ xs.length ≤ sizeLine := by
  rcases h with h | ⟨o, its, n, hk, hc, hd, hs, hz, r⟩
  · obtain ⟨z, its, n, r, e⟩ := h.ok I.hok
    exact ⟨its, r, ⟨_, n, e, rfl, rfl, rfl⟩, z⟩
  · refine ⟨its.toList, r, ⟨o, n, I.kIn a o hk, hc, hd, by simpa using hs⟩, ?_⟩
    have e := r.length
    simp only [Array.length_toList] at e
    omega
theorem Inv.tuple (I : Inv X pins σ H s) (h : SqT X.K H a xs) : ∃ its : List Value, Vals xs its ∧ IsTup s.heap a its.toArray ∧ xs.length ≤ sizeLine := by
  rcases h with h | ⟨o, its, n, hk, hc, hs, hz, r⟩
  · obtain ⟨z, its, r, p⟩ := h.ok I.hok
    exact ⟨its, r, p, z⟩
  · refine ⟨its.toList, r, ⟨o, I.kIn a o hk, hc, n, by simpa using hs⟩, ?_⟩
    have e := r.length
    simp only [Array.length_toList] at e
    omega
theorem Inv.list_inj (I : Inv X pins σ H s) (h : SqL X.K H a xs) (h' : SqL X.K H a ys) : xs = ys := by
  obtain ⟨its, r, ⟨o, n, e, _, _, d⟩, _⟩ := I.list h
  obtain ⟨its', r', ⟨o', n', e', _, _, d'⟩, _⟩ := I.list h'
  rw [e] at e'; cases e'
  rw [d] at d'
  injection d' with d1 _
  have : its = its' := by simpa using congrArg Array.toList d1
  subst this
  exact r.inj r'
theorem Inv.tuple_inj (I : Inv X pins σ H s) (h : SqT X.K H a xs) (h' : SqT X.K H a ys) : xs = ys := by
  obtain ⟨its, r, ⟨o, e, _, n, d⟩, _⟩ := I.tuple h
  obtain ⟨its', r', ⟨o', e', _, n', d'⟩, _⟩ := I.tuple h'
  rw [e] at e'; cases e'
  rw [d] at d'
  injection d' with d1 _
  have : its = its' := by simpa using congrArg Array.toList d1
  subst this
  exact r.inj r'
end
/-! ### another wish about exceptions -/
abbrev Cx.wish (X : Cx) (E : Value → Shared → Prop) : Cx := { X with xe := E }
/-- no exception leaves -/
abbrev Cx.nox (X : Cx) : Cx := X.wish fun _ _ => False
theorem Cx.Ok.wish {X : Cx} (ok : X.Ok) (E : Value → Shared → Prop) : (X.wish E).Ok :=
  ⟨ok.mod, ok.kind, ok.glob, ok.blt, ok.above, ok.inj, ok.has, ok.cab, ok.hd, ok.frames, ok.stk, ok.exf, ok.bs, ok.bsz, ok.noex, ok.exfs, ok.funs, ok.frf⟩
theorem Cx.Ok.unwish {X : Cx} {E : Value → Shared → Prop} (ok : (X.wish E).Ok) : X.Ok :=
  ⟨ok.mod, ok.kind, ok.glob, ok.blt, ok.above, ok.inj, ok.has, ok.cab, ok.hd, ok.frames, ok.stk, ok.exf, ok.bs, ok.bsz, ok.noex, ok.exfs, ok.funs, ok.frf⟩
section
variable {X : Cx} {pins : List (Addr × Obj)} {σ : St} {H : Hp} {s : Shared} {E : Value → Shared → Prop}
theorem Inv.wish (I : Inv X pins σ H s) (E : Value → Shared → Prop) : Inv (X.wish E) pins σ H s := ⟨I.ok.wish E, I.os, I.bare, I.base, I.loc, I.cell, I.free, I.freeC, I.pin, I.hok, I.len⟩
theorem Inv.unwish (I : Inv (X.wish E) pins σ H s) : Inv X pins σ H s := ⟨I.ok.unwish, I.os, I.bare, I.base, I.loc, I.cell, I.free, I.freeC, I.pin, I.hok, I.len⟩
theorem SP.unwish {D : Ends} {f : Flow} {s' : Shared} (h : SP (X.wish E) pins D f s') : SP X pins D f s' := by
  cases f with
  | next => obtain ⟨σ', H', I, q⟩ := h; exact ⟨σ', H', I.unwish, q⟩
  | brk => obtain ⟨σ', H', I, q⟩ := h; exact ⟨σ', H', I.unwish, q⟩
  | cont => obtain ⟨σ', H', I, q⟩ := h; exact ⟨σ', H', I.unwish, q⟩
  | ret u => obtain ⟨v, σ', H', I, r, q⟩ := h; exact ⟨v, σ', H', I.unwish, r, q⟩
theorem PSs.nox {st : List Stmt} {t : TS} (h : PSs X.nox st t) : PSs X st t := fun pins s σ H D I hw =>
  wpAny_mono (h pins s σ H D (I.wish _) hw) (fun _ _ q => q.unwish) fun _ _ z => False.elim z
end
/-! ### blocks and small statements -/
section
variable {X : Cx} {st : Stmt} {rest : List Stmt} {t u : TS} {e : Expr} {te : TE} {pos : Pos}
def tNext : TS := fun D σ H => D.nx σ H
def tSeq (t u : TS) : TS := fun D σ H => t { D with nx := u D } σ H
theorem pss_nil : PSs X [] tNext := fun _ _ σ H _ I h => wpAny_execs_nil ⟨σ, H, I, h⟩
theorem pss_cons (h1 : PS X st t) (h2 : PSs X rest u) : PSs X (st :: rest) (tSeq t u) := by
  intro pins s σ H D I h
  refine wpAny_execs_cons (thn (h1 pins s σ H { D with nx := u D } I h) fun f s1 q => ?_)
  cases f with
  | next =>
    obtain ⟨σ', H', I', q⟩ := q
    exact h2 pins s1 σ' H' D I' q
  | ret v => exact q
  | brk => exact q
  | cont => exact q
theorem pss_one (h1 : PS X st t) : PSs X [st] t := by
  intro pins s σ H D I h
  refine wpAny_execs_cons (thn (h1 pins s σ H D I h) fun f s1 q => ?_)
  cases f with
  | next => exact wpAny_execs_nil q
  | ret v => exact q
  | brk => exact q
  | cont => exact q
/-- in a def's body nothing is shown -/
theorem Inv.quiet {pins : List (Addr × Obj)} {σ : St} {H : Hp} {s : Shared} (I : Inv X pins σ H s) : interactive X.env = false := by simp [interactive, I.ok.kind]
/-- an expression whose value is dropped -/
def tDrop (te : TE) : TS := fun D σ H => te σ H fun _ H1 => D.nx σ H1
theorem ps_expr (he : PE X e te) (hs : swapsWith e none pos.line X.env = pure false := by rfl) : PS X (.Expr e pos) (tDrop te) := by
  intro pins s σ H D I h
  exact wpAny_Expr_any (thn (he pins s σ H _ I h) fun v s1 ⟨x, H1, I1, r1, q1⟩ => ⟨σ, H1, I1, q1⟩) I.quiet hs
def tRet (te : TE) : TS := fun D σ H => te σ H D.rt
theorem ps_ret (he : PE X e te) : PS X (.Return (some e) pos) (tRet te) := by
  intro pins s σ H D I h
  exact wpAny_Return_some (thn (he pins s σ H _ I h) fun v s1 ⟨x, H1, I1, r1, q1⟩ => ⟨x, σ, H1, I1, r1, q1⟩)
def tIfS (c : TT) (t u : TS) : TS := fun D σ H => c σ H fun b H1 => if b = true then t D σ H1 else u D σ H1
theorem ps_if {c : Expr} {a b : List Stmt} {tc : TT} (hc : PT X c tc) (ha : PSs X a t) (hb : PSs X b u) : PS X (.If c a b pos) (tIfS tc t u) := by
  intro pins s σ H D I h
  refine wpAny_If (thn (hc pins s σ H _ I h) fun d s1 ⟨H1, I1, q1⟩ => ?_)
  cases d with
  | true => exact ha pins s1 σ H1 D I1 q1
  | false => exact hb pins s1 σ H1 D I1 q1
end
/-! ### targets -/
abbrev TG := V → St → Hp → (St → Hp → Prop) → Prop
abbrev TGs := List V → St → Hp → (St → Hp → Prop) → Prop
def PG (X : Cx) (target : Expr) (t : TG) : Prop :=
  ∀ (pins : List (Addr × Obj)) (s : Shared) (σ : St) (H : Hp) (v : V) (u : Value) (Q : St → Hp → Prop), Inv X pins σ H s → RelV v u → t v σ H Q →
    wpAny (model X.prog X.w) X.A (assign target X.env u) (fun _ s' => ∃ σ' H', Inv X pins σ' H' s' ∧ Q σ' H') X.xe s
/-- several targets, one after another -/
def PGs (X : Cx) (ts : List Expr) (t : TGs) : Prop :=
  ∀ (pins : List (Addr × Obj)) (s : Shared) (σ : St) (H : Hp) (vs : List V) (us : List Value) (Q : St → Hp → Prop), Inv X pins σ H s → Vals vs us → t vs σ H Q →
    wpAny (model X.prog X.w) X.A (assignInOrder ((assignEach ts X.env).map (·.2)) us) (fun _ s' => ∃ σ' H', Inv X pins σ' H' s' ∧ Q σ' H') X.xe s
section
variable {X : Cx} {pos : Pos}
def gName (i : Nat) : TG := fun v σ H Q => Q (σ.set i (some v)) H
theorem pg_name {i : Nat} {x : Str} (hN : X.N.Nodup) (hi : X.N[i]? = some x) (hx : Loc X.env.scope x) (hf : X.fn x = true ∨ X.env.scope.names.lookup x = some .local := by first | exact .inl rfl | exact .inr rfl | assumption) : PG X (.Name x pos) (gName i) := by
  intro pins s σ H v u Q I r h
  exact wpAny_assign_Name (store_ok I hN hi hx r (fun s' I' => ⟨_, H, I', h⟩) hf)
def gNil : TGs := fun vs σ H Q => vs = [] ∧ Q σ H
def gCons (t : TG) (u : TGs) : TGs := fun vs σ H Q => ∃ v r, vs = v :: r ∧ t v σ H fun σ' H' => u r σ' H' Q
theorem pgs_nil : PGs X [] gNil := by
  intro pins s σ H vs us Q I r h
  obtain ⟨e, h⟩ := h
  subst e
  cases r
  exact assignInOrder_nil ⟨σ, H, I, h⟩
theorem pgs_cons {e : Expr} {es : List Expr} {t : TG} {u : TGs} (h1 : PG X e t) (h2 : PGs X es u)
    (hs : (assignEach (e :: es) X.env).map (·.2) = assign e X.env :: (assignEach es X.env).map (·.2) := by rfl) : PGs X (e :: es) (gCons t u) := by
  intro pins s σ H vs us Q I r h
  obtain ⟨v, vr, e1, h⟩ := h
  subst e1
  cases r with
  | cons r rr =>
    rw [hs]
    refine assignInOrder_cons (thn (h1 pins s σ H _ _ _ I r h) fun _ s1 ⟨σ1, H1, I1, q1⟩ => ?_)
    exact h2 pins s1 σ1 H1 _ _ Q I1 rr q1
/-- (a, b, ..) = a tuple of that length -/
def gTup (K : PySem.W.Frag) (n : Nat) (t : TGs) : TG := fun v σ H Q => ∃ a xs, v = .ref a ∧ SqT K H a xs ∧ xs.length = n ∧ t xs σ H Q
theorem pg_tup {es : List Expr} {k : Nat} {t : TGs} {n : Nat} (hc : X.calm = true) (h : PGs X es t)
    (hn : (assignEach es X.env).length = n := by rfl) (hst : (assignEach es X.env).findIdx? (·.1) = none := by rfl) : PG X (.Tuple es k pos) (gTup X.K n t) := by
  intro pins s σ H v u Q I r hw
  obtain ⟨a, xs, e1, hq, hl, hw⟩ := hw
  subst e1
  cases r
  obtain ⟨its, rv, ht, hz⟩ := I.tuple hq
  refine assign_Tuple_tuple (I.ok.hd hc) ht (by simp [hn, ← hl, rv.length]) hst fun h' hx => ?_
  have I1 : Inv X pins σ H { s with heap := h' } := I.kept (t' := s.toks) fun b o e => hx b o (Nat.ne_of_lt (Heap.lt_size e)) e
  exact h pins _ σ H xs _ Q I1 (by simpa using rv) hw
/-- target = value -/
def tAsg (te : TE) (g : TG) : TS := fun D σ H => te σ H fun x H1 => g x σ H1 D.nx
/-- name = value -/
theorem ps_set {i : Nat} {x : Str} {e : Expr} {te : TE} {pos' : Pos} (hN : X.N.Nodup) (hi : X.N[i]? = some x) (hx : Loc X.env.scope x) (he : PE X e te) (hs : swapsWith e (some (.Name x pos')) pos.line X.env = pure false := by rfl) (hf : X.fn x = true ∨ X.env.scope.names.lookup x = some .local := by first | exact .inl rfl | exact .inr rfl | assumption) :
    PS X (.Assign [.Name x pos'] e pos) (tAsg te (gName i)) := by
  intro pins s σ H D I h
  refine wpAny_Assign_Name (thn (he pins s σ H _ I h) fun v s1 ⟨y, H1, I1, r1, q1⟩ => ?_) hs
  exact store_ok I1 hN hi hx r1 (fun s2 I2 => ⟨_, H1, I2, q1⟩) hf
end
/-! ### while -/
section
variable {X : Cx} {pos : Pos}
/-- the invariant W with its measure -/
def tWhile (c : TT) (tb : TS) : TS := fun D σ H => ∃ W : Nat → St → Hp → Prop, (∃ m, W m σ H) ∧ ∀ m σ H, W m σ H →
  c σ H fun b H1 => if b = true then ∃ N : St → Hp → Prop, (∀ σ' H', N σ' H' → ∃ m', m' < m ∧ W m' σ' H') ∧ tb { D with nx := N, ct := N, bk := D.nx } σ H1 else D.nx σ H1
theorem ps_while {c : Expr} {body : List Stmt} {tc : TT} {tb : TS} (hp : PassesOwn (model X.prog X.w) X.A X.env X.xe) (hc : PT X c tc) (hb : PSs X body tb) : PS X (.While c body [] pos) (tWhile tc tb) := by
  intro pins s σ H D I h
  obtain ⟨W, ⟨m0, w0⟩, turn⟩ := h
  refine wpAny_While (codeAny_whileLoop (fun n s' => ∃ σ' H', Inv X pins σ' H' s' ∧ W n σ' H') ?_ m0 ⟨σ, H, I, w0⟩)
  rintro n s1 ⟨σ1, H1, I1, w1⟩
  refine wpAny_passesOwn hp (thn (hc pins s1 σ1 H1 _ I1 (turn n σ1 H1 w1)) fun b s2 ⟨H2, I2, q2⟩ => ?_)
  cases b with
  | true =>
    obtain ⟨N, hN, q2⟩ := q2
    rw [if_pos rfl]
    refine wpAny_passesOwn hp (thn (hb pins s2 σ1 H2 _ I2 q2) fun f s3 q3 => ?_)
    cases f with
    | next =>
      obtain ⟨σ3, H3, I3, n3⟩ := q3
      obtain ⟨m', hm, w3⟩ := hN σ3 H3 n3
      exact ⟨m', hm, σ3, H3, I3, w3⟩
    | cont =>
      obtain ⟨σ3, H3, I3, n3⟩ := q3
      obtain ⟨m', hm, w3⟩ := hN σ3 H3 n3
      exact ⟨m', hm, σ3, H3, I3, w3⟩
    | brk => exact q3
    | ret v => exact q3
  | false =>
    rw [if_neg Bool.false_ne_true]
    exact wpAny_execs_nil ⟨σ1, H2, I2, q2⟩
end
/-! ### what a loop or a comprehension walks -/
/-- at turn i: it yields x (the heap may grow), or it stops -/
structure It where
  go : Nat → Hp → Prop
  yld : Nat → Hp → V → Hp → Prop
  stop : Nat → Hp → Prop
/-- the iterator's own objects may turn: they are not the frame's, not pinned, younger than the entry (or a comprehension's own) -/
def FpOk (X : Cx) (pins : List (Addr × Obj)) (H : Hp) (b : Addr) : Prop :=
  H b = none ∧ b ≠ X.env.locals ∧ b ∉ X.fs ∧ (b ∈ X.ex ∨ X.s_0.heap.objs.size ≤ b) ∧ (∀ x c, X.env.cells.lookup x = some c → c ≠ b) ∧ ∀ p ∈ X.pn ++ pins, p.1 ≠ b
theorem Inv.fpOk {X : Cx} {pins : List (Addr × Obj)} {σ : St} {H H' : Hp} {s : Shared} {b : Addr} (I : Inv X pins σ H s) (hb : s.heap.objs.size ≤ b) (hn : H' b = none) : FpOk X pins H' b := by
  refine ⟨hn, Nat.ne_of_gt (Nat.lt_of_lt_of_le I.lt hb), I.nofs hb, .inr (Nat.le_trans I.sz hb), fun x c e z => ?_, fun p hp z => ?_⟩
  · obtain ⟨v, q⟩ := I.cell x c e
    exact absurd (Nat.lt_of_lt_of_le q.lt (by rw [z]; exact hb)) (Nat.lt_irrefl _)
  · exact absurd (Nat.lt_of_lt_of_le (Heap.lt_size (I.pin p hp).1) (by rw [z]; exact hb)) (Nat.lt_irrefl _)
structure Turn (P : Program) (w : World) (K : PySem.W.Frag) (tg : Expr) (J : It) (fp : List Addr) (it : Addr) (tn : Nat → Heap → Prop) : Prop where
  mem : it ∈ fp
  obj : ∀ i h, tn i h → ∀ b ∈ fp, ∃ o, h.get? b = some o ∧ ∀ v, o.data ≠ .cell v
  keep : ∀ i h h', tn i h → (∀ b ∈ fp, ∀ o, h.get? b = some o → h'.get? b = some o) → tn i h'
  item : ∀ (X : Cx), X.prog = P → X.w = w → X.K = K → X.calm = true → ∀ (i : Nat) (pins : List (Addr × Obj)) (s : Shared) (σ : St) (H : Hp) (E : Value → Shared → Prop), Inv X pins σ H s → (∀ b ∈ fp, FpOk X pins H b) → tn i s.heap → J.go i H →
    wpAny (model P w) X.A (pyNext (.ref it)) (fun r s1 => ∃ u, r = some u ∧
      wpAny (model P w) X.A (letOwnedTupleGo tg (.ref it) u) (fun _ s2 => ∃ x H', Inv X pins σ H' s2 ∧ RelV x u ∧ J.yld i H x H' ∧ tn (i + 1) s2.heap ∧ ∀ b ∈ fp, H' b = none) E s1) E s
  done : ∀ (X : Cx), X.prog = P → X.w = w → X.K = K → X.calm = true → ∀ (i : Nat) (pins : List (Addr × Obj)) (s : Shared) (σ : St) (H : Hp) (E : Value → Shared → Prop), Inv X pins σ H s → (∀ b ∈ fp, FpOk X pins H b) → tn i s.heap → J.stop i H →
    wpAny (model P w) X.A (pyNext (.ref it)) (fun r s1 => r = none ∧ Inv X pins σ H s1) E s
  self : ∀ (A : Around) (i : Nat) (s : Shared) (Q : Value → Shared → Prop) (E : Value → Shared → Prop), tn i s.heap → Q (.ref it) s → wpAny (model P w) A (pyIter (.ref it)) Q E s
abbrev TI := St → Hp → (It → Hp → Prop) → Prop
/-- an iterator has come -/
def PIE (X : Cx) (pins : List (Addr × Obj)) (σ : St) (tg : Expr) (R : It → Hp → Prop) (itv : Value) (s2 : Shared) : Prop :=
  ∃ (it : Addr) (fp : List Addr) (tn : Nat → Heap → Prop) (J : It) (H' : Hp), itv = .ref it ∧ Inv X pins σ H' s2 ∧ Turn X.prog X.w X.K tg J fp it tn ∧ tn 0 s2.heap ∧ (∀ b ∈ fp, FpOk X pins H' b) ∧ R J H'
def PI (X : Cx) (tg iter : Expr) (wi : TI) : Prop :=
  ∀ (pins : List (Addr × Obj)) (s : Shared) (σ : St) (H : Hp) (R : It → Hp → Prop), Inv X pins σ H s → wi σ H R →
    wpAny (model X.prog X.w) X.A (eval iter X.env) (fun v s1 => wpAny (model X.prog X.w) X.A (pyIter v) (PIE X pins σ tg R) X.xe s1) X.xe s
/-- the step ahead of the store is nothing for an iterator that keeps no tuple -/
theorem go_of {M : Model} {A : Around} {E : Value → Shared → Prop} {s : Shared} {tg : Expr} {it : Addr} {u : Value} {o : Obj} {n : String} {vs : Array Value} {Q : Unit → Shared → Prop} (ho : s.heap.get? it = some o) (hc : o.cls = .type n) (hd : o.data = .fields vs)
    (hn : ["enumerate", "zip", "dict_itemiterator", "dict_reverseitemiterator", "odict_iterator", "itertools.zip_longest", "itertools.pairwise"].contains n = false) (hQ : Q () s) : wpAny M A (letOwnedTupleGo tg (.ref it) u) Q E s := by
  unfold letOwnedTupleGo
  cases tg <;> first
    | exact wpAny_pure hQ
    | (cases u <;> first
        | exact wpAny_pure hQ
        | (refine wpAny_bind (wpAny_load ho ?_)
           rw [hc, hd]
           show wpAny M A (if (["enumerate", "zip", "dict_itemiterator", "dict_reverseitemiterator", "odict_iterator", "itertools.zip_longest", "itertools.pairwise"].contains n && vs[0]? == some (rawInt _)) = true then _ else _) Q E s
           rw [if_neg (by intro h; rw [hn, Bool.false_and] at h; cases h)]
           exact wpAny_pure hQ))
/-- the list at a, as it stands at each turn (a loop may append to it) -/
def Itl (K : PySem.W.Frag) (a : Addr) : It :=
  ⟨fun i H => ∃ xs x, SqL K H a xs ∧ xs[i]? = some x, fun i H x H' => H' = H ∧ ∀ xs, SqL K H a xs → xs[i]? = some x, fun i H => ∃ xs, SqL K H a xs ∧ xs.length ≤ i⟩
/-- lo, lo + 1, .. (n of them) -/
def Itr (lo : Int) (n : Nat) : It := ⟨fun i _ => i < n, fun i H x H' => H' = H ∧ x = .int (lo + i), fun i _ => n ≤ i⟩
theorem turn_list {P : Program} {w : World} {K : PySem.W.Frag} {tg : Expr} (a it : Addr) : Turn P w K tg (Itl K a) [it] it (fun i h => h.IsListIter it a i) where
  mem := by simp
  obj := fun i h st b hb => by
    have e : b = it := by simpa using hb
    subst e
    obtain ⟨o, e, c, d⟩ := st
    exact ⟨o, e, fun v z => by rw [d] at z; cases z⟩
  keep := fun i h h' st k => st.at fun o e => k it (by simp) o e
  item := by
    intro X hP hw hK hc i pins s σ H E I hf st hg
    subst hP hw hK
    obtain ⟨xs, x, hq, hx⟩ := hg
    obtain ⟨its, rv, p, hz⟩ := I.list hq
    obtain ⟨u, hu, ru⟩ := rv.get hx
    obtain ⟨f0, f1, f2, f3, f4, f5⟩ := hf it (by simp)
    refine wpAny_pyNext_list_item st p.isList (x := u) (by simpa using hu) fun h' st' sb => ?_
    have I1 : Inv X pins σ H { s with heap := h' } := I.turned (t' := s.toks) (fun b o hb e => (sb.2 b hb).trans e) f0 f1 f3 f4 f5
    obtain ⟨o, e, c, d⟩ := id st'
    exact ⟨u, rfl, go_of (s := { s with heap := h' }) e c d (by decide) ⟨x, H, I1, ru, ⟨rfl, fun ys hy => by rw [I.list_inj hy hq]; exact hx⟩, st', fun b hb => (hf b hb).1⟩⟩
  done := by
    intro X hP hw hK hc i pins s σ H E I hf st hg
    subst hP hw hK
    obtain ⟨xs, hq, hx⟩ := hg
    obtain ⟨its, rv, p, hz⟩ := I.list hq
    obtain ⟨f0, f1, f2, f3, f4, f5⟩ := hf it (by simp)
    have hl := rv.length
    exact wpAny_pyNext_list_end (I.ok.hd hc) st p.isList (by simp; omega) fun h' eb => ⟨rfl, I.turned (t' := s.toks) (fun b o hb e => eb b o hb e) f0 f1 f3 f4 f5⟩
  self := fun _ _ _ _ _ st h => wpAny_pyIter_listiter st h
theorem turn_range {P : Program} {w : World} {K : PySem.W.Frag} {tg : Expr} (it : Addr) (lo : Int) (n : Nat) : Turn P w K tg (Itr lo n) [it] it (fun i h => IsRangeIter h it (lo + (i : Nat) * 1) ((n : Int) - (i : Nat)) 1) where
  mem := by simp
  obj := fun i h st b hb => by
    have e : b = it := by simpa using hb
    subst e
    exact ⟨_, st, fun v z => by
      have z' : Data.fields _ = Data.cell v := z
      cases z'⟩
  keep := fun i h h' st k => k it (by simp) _ st
  item := by
    intro X hP hw hK hc i pins s σ H E I hf st hg
    subst hP hw hK
    obtain ⟨f0, f1, f2, f3, f4, f5⟩ := hf it (by simp)
    have W := Walks.range (prog := X.prog) (w := X.w) (I.ok.hd hc) it lo 1 n
    refine W.item i s _ _ hg st fun v h' tk hv st' kk => ?_
    obtain ⟨t, rfl⟩ := hv
    have I1 : Inv X pins σ H { s with heap := h', toks := tk } := I.turned (fun b o hb e => kk b o (by simpa using hb) e) f0 f1 f3 f4 f5
    refine ⟨_, rfl, go_of (s := { s with heap := h', toks := tk }) (n := "range_iterator") st' rfl rfl (by decide) ⟨.int (lo + i), H, I1, ⟨t, ?_⟩, ⟨rfl, rfl⟩, st', fun b hb => (hf b hb).1⟩⟩
    rw [Int.mul_one]
  done := by
    intro X hP hw hK hc i pins s σ H E I hf st hg
    subst hP hw hK
    obtain ⟨f0, f1, f2, f3, f4, f5⟩ := hf it (by simp)
    exact wpAny_pyNext_range_end (I.ok.hd hc) st (by have : n ≤ i := hg; omega) fun h' eb => ⟨rfl, I.turned (t' := s.toks) (fun b o hb e => eb b o hb e) f0 f1 f3 f4 f5⟩
  self := fun _ _ _ _ _ st h => wpAny_pyIter_rangeiter st h
end L2
namespace L2
open PySem PySem.Spec PyProof.Rows
section
variable {X : Cx} {tg : Expr}
def iList (K : PySem.W.Frag) (tl : TE) : TI := fun σ H R => tl σ H fun x H1 => ∃ a, x = .ref a ∧ (∃ xs, SqL K H1 a xs) ∧ R (Itl K a) H1
theorem pi_list {l : Expr} {tl : TE} (hl : PE X l tl) : PI X tg l (iList X.K tl) := by
  intro pins s σ H R I h
  refine thn (hl pins s σ H _ I h) fun v s1 ⟨x, H1, I1, r1, q1⟩ => ?_
  obtain ⟨a, e, ⟨xs, hq⟩, q⟩ := q1
  subst e
  cases r1
  obtain ⟨its, rv, p, hz⟩ := I1.list hq
  refine wpAny_pyIter_list p.isList ?_
  refine ⟨s1.heap.objs.size, [s1.heap.objs.size], _, _, H1, rfl, I1.kept (t' := s1.toks) fun b o e => Heap.get?_push_of_some _ e, turn_list a _, ⟨_, Heap.get?_push_size _ rfl, rfl, rfl⟩, fun b hb => ?_, q⟩
  have e : b = s1.heap.objs.size := by simpa using hb
  subst e
  exact I1.fpOk (Nat.le_refl _) (I1.hok.fresh (Nat.le_refl _))
/-- a range object just made, walked -/
theorem range_it {pins : List (Addr × Obj)} {σ : St} {H : Hp} {s : Shared} {R : It → Hp → Prop} {E : Value → Shared → Prop} {lo hi : Int} {t u v : Tok} {tk : Nat} (I : Inv X pins σ H s) (h1 : -(2 ^ 62) ≤ lo) (h2 : lo < 2 ^ 62) (h3 : -(2 ^ 62) ≤ hi) (h4 : hi < 2 ^ 62)
    (q : R (Itr lo (hi - lo).toNat) H) : wpAny (model X.prog X.w) X.A (pyIter (.ref s.heap.objs.size)) (PIE X pins σ tg R) E { s with heap := s.heap.push { cls := .type "range", data := .fields #[.int lo t, .int hi u, .int 1 v] }, toks := tk } := by
  refine wpAny_pyIter_range (IsRange.new ..) (small_one h1 h2 h3 h4) ?_
  have I1 : Inv X pins σ H { s with heap := s.heap.push { cls := .type "range", data := .fields #[.int lo t, .int hi u, .int 1 v] }, toks := tk } := I.kept fun b o e => Heap.get?_push_of_some _ e
  refine ⟨(s.heap.push { cls := .type "range", data := .fields #[.int lo t, .int hi u, .int 1 v] }).objs.size, [(s.heap.push { cls := .type "range", data := .fields #[.int lo t, .int hi u, .int 1 v] }).objs.size], _, _, H, rfl,
    I1.kept (t' := tk) fun b o e => Heap.get?_push_of_some _ e, turn_range _ lo (hi - lo).toNat, ?_, fun b hb => ?_, q⟩
  · have e1 : lo + ((0 : Nat) : Int) * 1 = lo := by simp
    have e2 : (((hi - lo).toNat : Nat) : Int) - ((0 : Nat) : Int) = Builtin.Range.rangeSize lo hi 1 := by rw [rangeSize_one]; split <;> omega
    show IsRangeIter _ _ (lo + ((0 : Nat) : Int) * 1) ((((hi - lo).toNat : Nat) : Int) - ((0 : Nat) : Int)) 1
    rw [e1, e2]
    exact Heap.get?_push_size _ rfl
  · have e : b = (s.heap.push { cls := .type "range", data := .fields #[.int lo t, .int hi u, .int 1 v] }).objs.size := by simpa using hb
    subst e
    exact I1.fpOk (Nat.le_refl _) (I1.hok.fresh (Nat.le_refl _))
def iRng1 (ta : TA) : TI := fun σ H R => ta σ H fun vs H1 => ∃ j : Int, vs = [.int j] ∧ -(2 ^ 62) ≤ j ∧ j < 2 ^ 62 ∧ R (Itr 0 j.toNat) H1
theorem pi_range1 {a : Expr} {ta : TA} {p pos : Pos} (hg : Gl X "range") (hm : X.mg "range" = none) (ha : PA X [a] ta) (hs : starEach [a] X.env = [(false, eval a X.env)] := by rfl) : PI X tg (.Call (.Name "range" p) [a] [] pos) (iRng1 ta) := by
  intro pins s σ H R I h
  refine Call_ (ld_blt I hg hm boot_range (PyProof.Rows.callWith_type1 (thn (ha pos pins s σ H _ I h) fun us s1 ⟨vs, H1, I1, r1, q1⟩ => ?_) hs rfl))
  obtain ⟨j, e, q1, q2, q⟩ := q1
  subst e
  cases r1 with
  | cons r rr =>
    cases rr
    obtain ⟨t, rfl⟩ := r
    exact call_range_1 (range_it I1 (by omega) (by omega) q1 q2 (by simpa using q))
/-! ### for -/
/-- W: the invariant by the turn and a measure; N: what the body is to reach -/
def tFor (wi : TI) (g : TG) (tb : TS) : TS := fun D σ H => wi σ H fun J H1 => ∃ W : Nat → Nat → St → Hp → Prop, (∃ m, W 0 m σ H1) ∧ ∀ i m σ H, W i m σ H →
  (J.stop i H ∧ D.nx σ H) ∨ (J.go i H ∧ ∃ N : St → Hp → Prop, (∀ σ' H', N σ' H' → ∃ m', m' < m ∧ W (i + 1) m' σ' H') ∧ ∀ x H', J.yld i H x H' → g x σ H' fun σ2 H2 => tb { D with nx := N, ct := N, bk := D.nx } σ2 H2)
/-- the records at fp as they stand -/
def pinsAt (fp : List Addr) (h : Heap) : List (Addr × Obj) := fp.filterMap fun b => (h.get? b).map fun o => (b, o)
theorem mem_pinsAt {fp : List Addr} {h : Heap} {b : Addr} {o : Obj} (hb : b ∈ fp) (e : h.get? b = some o) : (b, o) ∈ pinsAt fp h := List.mem_filterMap.mpr ⟨b, hb, by rw [e]; rfl⟩
theorem of_pinsAt {fp : List Addr} {h : Heap} {p : Addr × Obj} (hp : p ∈ pinsAt fp h) : p.1 ∈ fp ∧ h.get? p.1 = some p.2 := by
  obtain ⟨b, hb, e⟩ := List.mem_filterMap.mp hp
  cases q : h.get? b with
  | none => rw [q] at e; cases e
  | some o =>
    rw [q] at e
    have e' : (b, o) = p := Option.some.inj e
    subst e'
    exact ⟨hb, q⟩
theorem Inv.pinned {pins : List (Addr × Obj)} {σ : St} {H : Hp} {s : Shared} {fp : List Addr} (I : Inv X pins σ H s) (hf : ∀ b ∈ fp, FpOk X pins H b) (ho : ∀ b ∈ fp, ∃ o, s.heap.get? b = some o ∧ ∀ v, o.data ≠ .cell v) : Inv X (pins ++ pinsAt fp s.heap) σ H s :=
  I.pins_of fun p hp => (List.mem_append.mp hp).elim (fun z => I.pin p (List.mem_append_right _ z)) fun z => by
    obtain ⟨hb, e⟩ := of_pinsAt z
    obtain ⟨f0, f1, f2, _⟩ := hf p.1 hb
    obtain ⟨o, e', d⟩ := ho p.1 hb
    rw [e] at e'; cases e'
    exact ⟨e, f0, f1, f2, d⟩
theorem Inv.unpinned {pins pl : List (Addr × Obj)} {σ : St} {H : Hp} {s : Shared} (I : Inv X (pins ++ pl) σ H s) : Inv X pins σ H s := I.pins_of fun p hp => I.pin p (List.mem_append_right _ (List.mem_append_left _ hp))
theorem ps_for {iter : Expr} {body : List Stmt} {wi : TI} {g : TG} {tb : TS} {pos : Pos} (hp : PassesOwn (model X.prog X.w) X.A X.env X.xe) (hc : X.calm = true) (hi : PI X tg iter wi) (hg : PG X tg g) (hb : PSs X body tb)
    (hs : ∀ x, foldedSetIterable iter X.env x = pure x := by intro _; rfl) : PS X (.For tg iter body [] pos) (tFor wi g tb) := by
  intro pins s σ H D I h
  refine wpAny_For (thn (hi pins s σ H _ I h) fun v s1 h1 => thn h1 fun itv s2 h2 => ?_) hs
  obtain ⟨it, fp, tn, J, H2, e, I2, T, st2, f2, W, ⟨m0, w0⟩, turn⟩ := h2
  subst e
  -- what stays true of the iterator's objects through the loop
  have stat : ∀ {H' : Hp}, (∀ b ∈ fp, H' b = none) → ∀ b ∈ fp, FpOk X pins H' b := fun hn b hb => ⟨hn b hb, (f2 b hb).2⟩
  refine codeAny_forLoop_any (fun n s' => ∃ i σ' H', Inv X pins σ' H' s' ∧ tn i s'.heap ∧ (∀ b ∈ fp, H' b = none) ∧ W i n σ' H') ?_ m0 ⟨0, σ, H2, I2, st2, fun b hb => (f2 b hb).1, w0⟩
  rintro n s3 ⟨i, σ3, H3, I3, st3, fr3, w3⟩
  rcases turn i n σ3 H3 w3 with ⟨stop, qn⟩ | ⟨go, N, hN, step⟩
  · refine wpAny_passesOwn hp (thn (T.done X rfl rfl rfl hc i pins s3 σ3 H3 X.xe I3 (stat fr3) st3 stop) fun r s4 ⟨hr, I4⟩ => ?_)
    subst hr
    exact wpAny_execs_nil ⟨σ3, H3, I4, qn⟩
  · refine wpAny_passesOwn hp (thn (T.item X rfl rfl rfl hc i pins s3 σ3 H3 X.xe I3 (stat fr3) st3 go) fun r s4 ⟨u, hr, h4⟩ => ?_)
    subst hr
    refine wpAny_passesOwn hp (thn h4 fun _ s5 ⟨x, H5, I5, r5, y5, st5, fr5⟩ => ?_)
    have I5' := I5.pinned (stat fr5) (T.obj _ _ st5)
    refine wpAny_passesOwn hp (thn (hg _ s5 σ3 H5 x u _ I5' r5 (step x H5 y5)) fun _ s6 ⟨σ6, H6, I6, q6⟩ => ?_)
    refine wpAny_passesOwn hp (thn (hb _ s6 σ6 H6 _ I6 q6) fun f s7 q7 => ?_)
    have again : ∀ {σ7 : St} {H7 : Hp}, Inv X (pins ++ pinsAt fp s5.heap) σ7 H7 s7 → N σ7 H7 → ∃ m, m < n ∧ ∃ i σ' H', Inv X pins σ' H' s7 ∧ tn i s7.heap ∧ (∀ b ∈ fp, H' b = none) ∧ W i m σ' H' := fun {σ7 H7} I7 n7 => by
      obtain ⟨m', hm, w7⟩ := hN σ7 H7 n7
      refine ⟨m', hm, i + 1, σ7, H7, I7.unpinned, T.keep _ _ _ st5 fun b hb o e => (I7.pin (b, o) (List.mem_append_right _ (List.mem_append_right _ (mem_pinsAt hb e)))).1, fun b hb => ?_, w7⟩
      obtain ⟨o, e, d⟩ := T.obj _ _ st5 b hb
      exact (I7.pin (b, o) (List.mem_append_right _ (List.mem_append_right _ (mem_pinsAt hb e)))).2.1
    cases f with
    | next => obtain ⟨σ7, H7, I7, n7⟩ := q7; exact again I7 n7
    | cont => obtain ⟨σ7, H7, I7, n7⟩ := q7; exact again I7 n7
    | brk => obtain ⟨σ7, H7, I7, q7⟩ := q7; exact ⟨σ7, H7, I7.unpinned, q7⟩
    | ret v => obtain ⟨x7, σ7, H7, I7, r7, q7⟩ := q7; exact ⟨x7, σ7, H7, I7.unpinned, r7, q7⟩
end
/-! ### the forms one uses -/
/-- over a list that the body leaves as it is -/
theorem for_list {K : PySem.W.Frag} {a : Addr} {xs : List V} {g : TG} {tb : TS} {D : Ends} {σ : St} {H : Hp} (Pv : Nat → St → Hp → Prop) (h0 : Pv 0 σ H) (hl : ∀ i σ H, i ≤ xs.length → Pv i σ H → SqL K H a xs)
    (hs : ∀ i x σ H, xs[i]? = some x → Pv i σ H → g x σ H fun σ2 H2 => tb { D with nx := Pv (i + 1), ct := Pv (i + 1), bk := D.nx } σ2 H2) (hd : ∀ σ H, Pv xs.length σ H → D.nx σ H) :
    ∃ W : Nat → Nat → St → Hp → Prop, (∃ m, W 0 m σ H) ∧ ∀ i m σ H, W i m σ H →
      ((Itl K a).stop i H ∧ D.nx σ H) ∨ ((Itl K a).go i H ∧ ∃ N : St → Hp → Prop, (∀ σ' H', N σ' H' → ∃ m', m' < m ∧ W (i + 1) m' σ' H') ∧ ∀ x H', (Itl K a).yld i H x H' → g x σ H' fun σ2 H2 => tb { D with nx := N, ct := N, bk := D.nx } σ2 H2) := by
  refine ⟨fun i m σ H => m = xs.length - i ∧ i ≤ xs.length ∧ Pv i σ H, ⟨xs.length, by simp, Nat.zero_le _, h0⟩, ?_⟩
  rintro i m σ H ⟨rfl, hi, p⟩
  have q := hl i σ H hi p
  by_cases hlt : i < xs.length
  · refine .inr ⟨⟨xs, xs[i], q, by simp [hlt]⟩, Pv (i + 1), fun σ' H' p' => ⟨xs.length - (i + 1), by omega, rfl, hlt, p'⟩, fun x H' y => ?_⟩
    obtain ⟨e, y⟩ := y
    subst e
    exact hs i x σ _ (y xs q) p
  · have e : i = xs.length := by omega
    subst e
    exact .inl ⟨⟨xs, q, Nat.le_refl _⟩, hd σ H p⟩
theorem for_range {lo : Int} {n : Nat} {g : TG} {tb : TS} {D : Ends} {σ : St} {H : Hp} (Pv : Nat → St → Hp → Prop) (h0 : Pv 0 σ H)
    (hs : ∀ i σ H, i < n → Pv i σ H → g (.int (lo + i)) σ H fun σ2 H2 => tb { D with nx := Pv (i + 1), ct := Pv (i + 1), bk := D.nx } σ2 H2) (hd : ∀ σ H, Pv n σ H → D.nx σ H) :
    ∃ W : Nat → Nat → St → Hp → Prop, (∃ m, W 0 m σ H) ∧ ∀ i m σ H, W i m σ H →
      ((Itr lo n).stop i H ∧ D.nx σ H) ∨ ((Itr lo n).go i H ∧ ∃ N : St → Hp → Prop, (∀ σ' H', N σ' H' → ∃ m', m' < m ∧ W (i + 1) m' σ' H') ∧ ∀ x H', (Itr lo n).yld i H x H' → g x σ H' fun σ2 H2 => tb { D with nx := N, ct := N, bk := D.nx } σ2 H2) := by
  refine ⟨fun i m σ H => m = n - i ∧ i ≤ n ∧ Pv i σ H, ⟨n, by simp, Nat.zero_le _, h0⟩, ?_⟩
  rintro i m σ H ⟨rfl, hi, p⟩
  by_cases hlt : i < n
  · refine .inr ⟨hlt, Pv (i + 1), fun σ' H' p' => ⟨n - (i + 1), by omega, rfl, hlt, p'⟩, fun x H' y => ?_⟩
    obtain ⟨e, y⟩ := y
    subst e y
    exact hs i σ _ hlt p
  · have e : i = n := by omega
    subst e
    exact .inl ⟨Nat.le_refl _, hd σ H p⟩
end L2
namespace L2
open PySem PySem.Spec PyProof.Rows
abbrev R2 := V → V → Hp → VK → Prop
/-- a two-place operation on values: f is binaryOp op, inplaceOp op or compareOp op -/
def OpR (X : Cx) (f : Value → Value → Sem Value) (r : R2) : Prop :=
  ∀ (pins : List (Addr × Obj)) (s : Shared) (σ : St) (H : Hp) (x y : V) (v u : Value) (Q : VK), Inv X pins σ H s → RelV x v → RelV y u → r x y H Q →
    wpAny (model X.prog X.w) X.A (f v u) (EP X pins σ Q) X.xe s
/-- a one-place operation -/
def UnR (X : Cx) (f : Value → Sem Value) (r : V → Hp → VK → Prop) : Prop :=
  ∀ (pins : List (Addr × Obj)) (s : Shared) (σ : St) (H : Hp) (x : V) (v : Value) (Q : VK), Inv X pins σ H s → RelV x v → r x H Q →
    wpAny (model X.prog X.w) X.A (f v) (EP X pins σ Q) X.xe s
/-- a call of a value that is known (a builtin, a type) with values -/
def CallR (X : Cx) (f : Value) (r : List V → Hp → VK → Prop) : Prop :=
  ∀ (pins : List (Addr × Obj)) (s : Shared) (σ : St) (H : Hp) (xs : List V) (us : List Value) (Q : VK), Inv X pins σ H s → Vals xs us → r xs H Q →
    wpAny (model X.prog X.w) X.A (call f us) (EP X pins σ Q) X.xe s
def tOp (r : R2) (ta tb : TE) : TE := fun σ H Q => ta σ H fun x H1 => tb σ H1 fun y H2 => r x y H2 Q
def tUn (r : V → Hp → VK → Prop) (ta : TE) : TE := fun σ H Q => ta σ H fun x H1 => r x H1 Q
/-- ints in, under C, and a value out -/
def rI (C : Int → Int → Prop) (g : Int → Int → V) : R2 := fun x y H Q => ∃ i j, x = .int i ∧ y = .int j ∧ C i j ∧ Q (g i j) H
def rI0 (g : Int → Int → V) : R2 := fun x y H Q => ∃ i j, x = .int i ∧ y = .int j ∧ Q (g i j) H
def rU (g : Int → V) : V → Hp → VK → Prop := fun x H Q => ∃ i, x = .int i ∧ Q (g i) H
section
variable {X : Cx} {a b c : Expr} {ta tb tc : TE} {pos : Pos}
theorem binT (ha : PE X a ta) (hb : PE X b tb) {pins : List (Addr × Obj)} {s : Shared} {σ : St} {H : Hp} {R : V → V → Hp → Prop} (I : Inv X pins σ H s)
    (h : ta σ H fun x H1 => tb σ H1 fun y H2 => R x y H2) {Q : Value → Shared → Prop} {f : Value → Value → Sem Value}
    (hf : ∀ v u s2 x y H2, Inv X pins σ H2 s2 → RelV x v → RelV y u → R x y H2 → wpAny (model X.prog X.w) X.A (f v u) Q X.xe s2) :
    wpAny (model X.prog X.w) X.A (eval a X.env) (fun v s₁ => wpAny (model X.prog X.w) X.A (eval b X.env) (fun u s₂ => wpAny (model X.prog X.w) X.A (f v u) Q X.xe s₂) X.xe s₁) X.xe s := by
  refine thn (ha pins s σ H _ I h) fun v s1 ⟨x, H1, I1, r1, q1⟩ => ?_
  refine thn (hb pins s1 σ H1 _ I1 q1) fun u s2 ⟨y, H2, I2, r2, q2⟩ => ?_
  exact hf v u s2 x y H2 I2 r1 r2 q2
theorem pe_op {op : Operator} {r : R2} (ho : OpR X (binaryOp op) r) (ha : PE X a ta) (hb : PE X b tb) : PE X (.BinOp a op b pos) (tOp r ta tb) := by
  intro pins s σ H Q I h
  exact wpAny_BinOp (binT ha hb I h fun v u s2 x y H2 I2 rx ry q => ho pins s2 σ H2 x y v u Q I2 rx ry q)
theorem pe_un {op : UnaryOp} {r : V → Hp → VK → Prop} (ho : UnR X (unaryOp op) r) (ha : PE X a ta) : PE X (.UnaryOp op a pos) (tUn r ta) := by
  intro pins s σ H Q I h
  exact UnaryOp_ (thn (ha pins s σ H _ I h) fun v s1 ⟨x, H1, I1, r1, q1⟩ => ho pins s1 σ H1 x v Q I1 r1 q1)
/-! ### ints -/
theorem opI {f : Value → Value → Sem Value} {C : Int → Int → Prop} {g : Int → Int → Int}
    (rule : ∀ (i j : Int) (t u : Tok) (s : Shared) (Q : Value → Shared → Prop) (E : Value → Shared → Prop), C i j → Q (.int (g i j) s.toks) { s with toks := s.toks + 1 } → wpAny (model X.prog X.w) X.A (f (.int i t) (.int j u)) Q E s) :
    OpR X f (rI C fun i j => .int (g i j)) := by
  intro pins s σ H x y v u Q I rx ry h
  obtain ⟨i, j, rfl, rfl, hc, q⟩ := h
  obtain ⟨t, rfl⟩ := rx
  obtain ⟨t', rfl⟩ := ry
  exact rule i j t t' s _ _ hc ⟨.int (g i j), H, I.tok _, ⟨_, rfl⟩, q⟩
theorem opI0 {f : Value → Value → Sem Value} {g : Int → Int → Int}
    (rule : ∀ (i j : Int) (t u : Tok) (s : Shared) (Q : Value → Shared → Prop) (E : Value → Shared → Prop), Q (.int (g i j) s.toks) { s with toks := s.toks + 1 } → wpAny (model X.prog X.w) X.A (f (.int i t) (.int j u)) Q E s) :
    OpR X f (rI0 fun i j => .int (g i j)) := by
  intro pins s σ H x y v u Q I rx ry h
  obtain ⟨i, j, rfl, rfl, q⟩ := h
  obtain ⟨t, rfl⟩ := rx
  obtain ⟨t', rfl⟩ := ry
  exact rule i j t t' s _ _ ⟨.int (g i j), H, I.tok _, ⟨_, rfl⟩, q⟩
theorem opB0 {f : Value → Value → Sem Value} {g : Int → Int → Bool}
    (rule : ∀ (i j : Int) (t u : Tok) (s : Shared) (Q : Value → Shared → Prop) (E : Value → Shared → Prop), Q (.bool (g i j)) s → wpAny (model X.prog X.w) X.A (f (.int i t) (.int j u)) Q E s) :
    OpR X f (rI0 fun i j => .bl (g i j)) := by
  intro pins s σ H x y v u Q I rx ry h
  obtain ⟨i, j, rfl, rfl, q⟩ := h
  obtain ⟨t, rfl⟩ := rx
  obtain ⟨t', rfl⟩ := ry
  exact rule i j t t' s _ _ ⟨.bl (g i j), H, I, rfl, q⟩
def CMul (i j : Int) : Prop := (-(2 ^ 64) < i ∧ i < 2 ^ 64) ∨ (-(2 ^ 64) < j ∧ j < 2 ^ 64)
theorem CMul.ok {i j : Int} (h : CMul i j) : IntMulOk i j := by
  rcases h with ⟨h1, h2⟩ | ⟨h1, h2⟩
  · exact .of_left (intBits_le_64 h1 h2)
  · exact .of_right (intBits_le_64 h1 h2)
theorem two_pow_nn (k : Nat) : (0 : Int) ≤ 2 ^ k := by
  rw [two_pow_cast]
  exact Int.natCast_nonneg _
theorem op_add : OpR X (binaryOp .Add) (rI0 fun i j => .int (i + j)) := opI0 fun _ _ _ _ _ _ _ q => add_int q
theorem op_sub : OpR X (binaryOp .Sub) (rI0 fun i j => .int (i - j)) := opI0 fun _ _ _ _ _ _ _ q => sub_int q
theorem op_mul : OpR X (binaryOp .Mult) (rI CMul fun i j => .int (i * j)) := opI fun _ _ _ _ _ _ _ hc q => mul_int q hc.ok
/-- % by a positive divisor of any size -/
theorem op_mod : OpR X (binaryOp .Mod) (rI (fun _ j => 0 < j) fun i j => .int (i % j)) := opI fun i j _ _ _ _ _ hc q => by
  have h1 : (0 : Int) < j := hc
  exact mod_int' (by omega) (by rw [Int.fmod_eq_emod_of_nonneg i (by omega)]; exact q)
theorem op_shr : OpR X (binaryOp .RShift) (rI (fun _ j => 0 ≤ j) fun i j => .int (i / 2 ^ j.toNat)) := opI fun i j _ _ _ _ _ hc q =>
  rshift_int hc (by rw [Int.fdiv_eq_ediv_of_nonneg i (two_pow_nn _)]; exact q)
theorem unI {f : Value → Sem Value} {g : Int → Int}
    (rule : ∀ (i : Int) (t : Tok) (s : Shared) (Q : Value → Shared → Prop) (E : Value → Shared → Prop), Q (.int (g i) s.toks) { s with toks := s.toks + 1 } → wpAny (model X.prog X.w) X.A (f (.int i t)) Q E s) :
    UnR X f (rU fun i => .int (g i)) := by
  intro pins s σ H x v Q I rx h
  obtain ⟨i, rfl, q⟩ := h
  obtain ⟨t, rfl⟩ := rx
  exact rule i t s _ _ ⟨.int (g i), H, I.tok _, ⟨_, rfl⟩, q⟩
theorem un_neg : UnR X (unaryOp .USub) (rU fun i => .int (-i)) := unI fun _ _ _ _ _ q => neg_int q
/-! ### bools among ints: n += (a < b) -/
end
/-! ### comparisons -/
/-- the scalars that == tells apart as data does -/
def scal : V → V → Bool
  | .non, .non => true | .non, .int _ => true | .int _, .non => true | .non, .bl _ => true | .bl _, .non => true | .non, .str _ => true | .str _, .non => true
  | .int _, .int _ => true | .bl _, .bl _ => true | .str _, .str _ => true | .byt _, .byt _ => true
  | .int _, .str _ => true | .str _, .int _ => true | .bl _, .str _ => true | .str _, .bl _ => true
  | _, _ => false
def rEq : R2 := fun x y H Q => scal x y = true ∧ Q (.bl (decide (x = y))) H
def rNe : R2 := fun x y H Q => scal x y = true ∧ Q (.bl (!decide (x = y))) H
theorem dec_int {i j : Int} : decide (V.int i = V.int j) = (i == j) := by
  rw [Bool.eq_iff_iff]
  simp
theorem dec_bl {i j : Bool} : decide (V.bl i = V.bl j) = (i == j) := by
  rw [Bool.eq_iff_iff]
  simp
theorem dec_str {i j : Str} : decide (V.str i = V.str j) = (i == j) := by
  rw [Bool.eq_iff_iff]
  simp
theorem dec_byt {i j : Array UInt8} : decide (V.byt i = V.byt j) = (i.toList == j.toList) := by
  rw [Bool.eq_iff_iff]
  cases i
  cases j
  simp
section
variable {X : Cx} {a b c : Expr} {ta tb tc : TE} {pos : Pos}
theorem fin_bl {pins : List (Addr × Obj)} {σ : St} {H : Hp} {s : Shared} {Q : VK} {k k' : Bool} (I : Inv X pins σ H s) (q : Q (.bl k) H) (e : k = k') : EP X pins σ Q (.bool k') s := by
  subst e
  exact ⟨.bl k, H, I, rfl, q⟩
theorem op_eq : OpR X (compareOp .Eq) rEq := by
  intro pins s σ H x y v u Q I rx ry h
  obtain ⟨hs, q⟩ := h
  cases x with
  | non =>
    cases rx
    cases y with
    | non => cases ry; exact PySem.EqNone.eq_none_none (fin_bl I q (by simp))
    | bl j => cases ry; exact PySem.EqNone.eq_none_bool (fin_bl I q (by simp))
    | int j => obtain ⟨t', rfl⟩ := ry; exact PySem.EqNone.eq_none_int (fin_bl I q (by simp))
    | str j => obtain ⟨t', rfl⟩ := ry; exact PySem.EqNone.eq_none_str (fin_bl I q (by simp))
    | _ => exact absurd (show false = true from hs) Bool.false_ne_true
  | bl i =>
    cases rx
    cases y with
    | non => cases ry; exact PySem.EqNone.eq_bool_none (fin_bl I q (by simp))
    | bl j => cases ry; exact eq_bool (fin_bl I q dec_bl)
    | str j => obtain ⟨t', rfl⟩ := ry; exact PySem.EqMixed.eq_bool_str (fin_bl I q (by simp))
    | _ => exact absurd (show false = true from hs) Bool.false_ne_true
  | int i =>
    obtain ⟨t, rfl⟩ := rx
    cases y with
    | non => cases ry; exact PySem.EqNone.eq_int_none (fin_bl I q (by simp))
    | int j => obtain ⟨t', rfl⟩ := ry; exact eq_int (fin_bl I q dec_int)
    | str j => obtain ⟨t', rfl⟩ := ry; exact PySem.EqMixed.eq_int_str (fin_bl I q (by simp))
    | _ => exact absurd (show false = true from hs) Bool.false_ne_true
  | str i =>
    obtain ⟨t, rfl⟩ := rx
    cases y with
    | non => cases ry; exact PySem.EqNone.eq_str_none (fin_bl I q (by simp))
    | bl j => cases ry; exact PySem.EqMixed.eq_str_bool (fin_bl I q (by simp))
    | int j => obtain ⟨t', rfl⟩ := ry; exact PySem.EqMixed.eq_str_int (fin_bl I q (by simp))
    | str j => obtain ⟨t', rfl⟩ := ry; exact eq_str (fin_bl I q dec_str)
    | _ => exact absurd (show false = true from hs) Bool.false_ne_true
  | byt i =>
    obtain ⟨t, rfl⟩ := rx
    cases y with
    | byt j => obtain ⟨t', rfl⟩ := ry; exact PySem.W.eq_bytes (fin_bl I q dec_byt)
    | _ => exact absurd (show false = true from hs) Bool.false_ne_true
  | _ => cases y <;> exact absurd (show false = true from hs) Bool.false_ne_true
theorem op_ne : OpR X (compareOp .NotEq) rNe := by
  intro pins s σ H x y v u Q I rx ry h
  obtain ⟨hs, q⟩ := h
  cases x with
  | non =>
    cases rx
    cases y with
    | non => cases ry; exact PySem.EqNone.ne_none_none (fin_bl I q (by simp))
    | bl j => cases ry; exact PySem.EqNone.ne_none_bool (fin_bl I q (by simp))
    | int j => obtain ⟨t', rfl⟩ := ry; exact PySem.EqNone.ne_none_int (fin_bl I q (by simp))
    | str j => obtain ⟨t', rfl⟩ := ry; exact PySem.EqNone.ne_none_str (fin_bl I q (by simp))
    | _ => exact absurd (show false = true from hs) Bool.false_ne_true
  | bl i =>
    cases rx
    cases y with
    | non => cases ry; exact PySem.EqNone.ne_bool_none (fin_bl I q (by simp))
    | bl j => cases ry; exact ne_bool (fin_bl I q (congrArg not dec_bl))
    | str j => obtain ⟨t', rfl⟩ := ry; exact PySem.EqMixed.ne_bool_str (fin_bl I q (by simp))
    | _ => exact absurd (show false = true from hs) Bool.false_ne_true
  | int i =>
    obtain ⟨t, rfl⟩ := rx
    cases y with
    | non => cases ry; exact PySem.EqNone.ne_int_none (fin_bl I q (by simp))
    | int j => obtain ⟨t', rfl⟩ := ry; exact ne_int (fin_bl I q (congrArg not dec_int))
    | str j => obtain ⟨t', rfl⟩ := ry; exact PySem.EqMixed.ne_int_str (fin_bl I q (by simp))
    | _ => exact absurd (show false = true from hs) Bool.false_ne_true
  | str i =>
    obtain ⟨t, rfl⟩ := rx
    cases y with
    | non => cases ry; exact PySem.EqNone.ne_str_none (fin_bl I q (by simp))
    | bl j => cases ry; exact PySem.EqMixed.ne_str_bool (fin_bl I q (by simp))
    | int j => obtain ⟨t', rfl⟩ := ry; exact PySem.EqMixed.ne_str_int (fin_bl I q (by simp))
    | str j => obtain ⟨t', rfl⟩ := ry; exact ne_str (fin_bl I q (congrArg not dec_str))
    | _ => exact absurd (show false = true from hs) Bool.false_ne_true
  | byt i =>
    obtain ⟨t, rfl⟩ := rx
    cases y with
    | byt j => obtain ⟨t', rfl⟩ := ry; exact PySem.W.ne_bytes (fin_bl I q (congrArg not dec_byt))
    | _ => exact absurd (show false = true from hs) Bool.false_ne_true
  | _ => cases y <;> exact absurd (show false = true from hs) Bool.false_ne_true
theorem op_lt : OpR X (compareOp .Lt) (rI0 fun i j => .bl (decide (i < j))) := opB0 fun _ _ _ _ _ _ _ q => lt_int q
theorem op_le : OpR X (compareOp .LtE) (rI0 fun i j => .bl (decide (i ≤ j))) := opB0 fun _ _ _ _ _ _ _ q => le_int q
theorem op_gt : OpR X (compareOp .Gt) (rI0 fun i j => .bl (decide (j < i))) := opB0 fun _ _ _ _ _ _ _ q => gt_int q
theorem op_ge : OpR X (compareOp .GtE) (rI0 fun i j => .bl (decide (j ≤ i))) := opB0 fun _ _ _ _ _ _ _ q => ge_int q
theorem nomark (b : Expr) {op : CmpOp} (h : op ≠ .In := by decide) (h2 : op ≠ .NotIn := by decide) : behindInMarks op b = false := by
  have e1 : (op == CmpOp.In) = false := by cases op <;> first | rfl | exact absurd rfl h
  have e2 : (op == CmpOp.NotIn) = false := by cases op <;> first | rfl | exact absurd rfl h2
  cases b <;> simp [behindInMarks, e1, e2]
/-- a comparison as a value; hm: nomark b, or (for in, not in) by with_unfolding_all rfl -/
theorem pe_cmpR {op : CmpOp} {r : R2} (ho : OpR X (compareOp op) r) (ha : PE X a ta) (hb : PE X b tb) (hm : behindInMarks op b = false) : PE X (.Compare a [op] [b] pos) (tOp r ta tb) := by
  intro pins s σ H Q I h
  exact wpAny_Compare1 (binT ha hb I h fun v u s2 x y H2 I2 rx ry q => ho pins s2 σ H2 x y v u Q I2 rx ry q) hm
/-- a reading of a value as a test -/
def tTest (t : TE) : TT := fun σ H Q => t σ H fun x H' => ∃ k, x = .bl k ∧ Q k H'
theorem pt_cmpR {op : CmpOp} {r : R2} (ho : OpR X (compareOp op) r) (ha : PE X a ta) (hb : PE X b tb) (hm : behindInMarks op b = false) : PT X (.Compare a [op] [b] pos) (tTest (tOp r ta tb)) := by
  intro pins s σ H Q I h
  refine wpAny_isTrue_Compare1 (thn (ha pins s σ H _ I h) fun v s1 ⟨x, H1, I1, r1, q1⟩ => thn (hb pins s1 σ H1 _ I1 q1) fun u s2 ⟨y, H2, I2, r2, q2⟩ =>
    thn (ho pins s2 σ H2 x y v u _ I2 r1 r2 q2) fun c s3 ⟨z, H3, I3, r3, k, e, q3⟩ => ?_) hm
  subst e
  cases r3
  exact wpAny_truthy_bool ⟨H3, I3, q3⟩
/-- a op1 b op2 c -/
def tChain (r r' : R2) (ta tb tc : TE) : TE := fun σ H Q => ta σ H fun x H1 => tb σ H1 fun y H2 => r x y H2 fun z H3 => ∃ k, z = .bl k ∧
  (if k = true then tc σ H3 fun w' H4 => r' y w' H4 Q else Q (.bl false) H3)
theorem pe_chain {op op' : CmpOp} {r r' : R2} (ho : OpR X (compareOp op) r) (ho' : OpR X (compareOp op') r') (ha : PE X a ta) (hb : PE X b tb) (hc : PE X c tc)
    (hm : lastMarks [op, op'] [b, c] = false := by with_unfolding_all rfl) : PE X (.Compare a [op, op'] [b, c] pos) (tChain r r' ta tb tc) := by
  intro pins s σ H Q I h
  refine Compare_chain (thn (ha pins s σ H _ I h) fun v s1 ⟨x, H1, I1, r1, q1⟩ => chain_link (thn (hb pins s1 σ H1 _ I1 q1) fun u s2 ⟨y, H2, I2, r2, q2⟩ =>
    thn (ho pins s2 σ H2 x y v u _ I2 r1 r2 q2) fun d s3 ⟨z, H3, I3, r3, k, e, q3⟩ => ?_)) hm
  subst e
  cases r3
  refine wpAny_truthy_bool ?_
  cases k with
  | false => exact ite_ff ⟨.bl false, H3, I3, rfl, q3⟩
  | true => exact ite_tt (chain_last (thn (hc pins s3 σ H3 _ I3 q3) fun w' s4 ⟨z', H4, I4, r4, q4⟩ => ho' pins s4 σ H4 y z' u w' Q I4 r2 r4 q4))
/-! ### truth -/
theorem line63 : (sizeLine : Nat) < 2 ^ 63 := by rw [sizeLine_eq]; decide
/-! ### strs and bytes -/
theorem op_add_str : OpR X (binaryOp .Add) (fun x y H Q => ∃ i j, x = .str i ∧ y = .str j ∧ i.length + j.length ≤ sizeLine ∧ Q (.str (i ++ j)) H) := by
  intro pins s σ H x y v u Q I rx ry h
  obtain ⟨i, j, rfl, rfl, hz, q⟩ := h
  obtain ⟨t, rfl⟩ := rx
  obtain ⟨t', rfl⟩ := ry
  exact add_str (fun t' tk => ⟨.str (i ++ j), H, I.tok _, ⟨_, rfl⟩, q⟩) hz
/-! ### scalar builtins, by CallR -/
theorem vals1 {x : V} {us : List Value} (r : Vals [x] us) : ∃ u, us = [u] ∧ RelV x u := by
  cases r with
  | cons r1 r2 => cases r2; exact ⟨_, rfl, r1⟩
theorem call_ord : CallR X (.builtin "ord") (fun xs H Q => ∃ x, xs = [.str x] ∧ x.length = 1 ∧ Q (.int (x.cps.getD 0 0 : Nat)) H) := by
  intro pins s σ H xs us Q I r h
  obtain ⟨x, rfl, hz, q⟩ := h
  obtain ⟨u, rfl, t, rfl⟩ := vals1 r
  exact ord_of_one hz ⟨.int _, H, I.tok _, ⟨_, rfl⟩, q⟩
end
end L2
namespace L2
open PySem PySem.Spec PyProof.Rows
/-! ### an instance, its attributes a map -/
structure ObjM (h : Heap) (x dx C : Addr) (mA : Str → Option Value) : Prop where
  obj : h.get? x = some (PySem.W.instObj C dx)
  ns : h.Ns1 dx mA
  ne : dx ≠ x
theorem lookIn_ns {h : Heap} {dx : Addr} {mA : Str → Option Value} (n : h.Ns1 dx mA) : ∃ od, h.get? dx = some od ∧ ∀ name, PySem.W.lookIn name od = some (mA name) := by
  obtain ⟨o, es, ep, ho, hd, hk, _, hm⟩ := n
  refine ⟨o, ho, fun name => ?_⟩
  have e := hm name
  unfold nsFind findBy at e
  rw [← Array.find?_toList] at e
  unfold PySem.W.lookIn
  rw [hd]
  dsimp only
  split
  · rename_i y q
    rw [q] at e
    exact congrArg some e
  · rename_i q
    rw [q] at e
    have a : es.toList.any (·.refKey) = false := by
      rw [List.any_eq_false]
      intro y hy
      obtain ⟨z, t, hkey⟩ := hk y (Array.mem_toList_iff.mp hy)
      simp [DictEntry.refKey, hkey]
    have a' : ¬ es.toList.any (·.refKey) = true := by rw [a]; exact Bool.false_ne_true
    rw [if_neg a']
    exact congrArg some e
theorem ObjM.look {h : Heap} {x dx C : Addr} {mA : Str → Option Value} (I : ObjM h x dx C mA) : ∃ od, PySem.W.InstAt h x (PySem.W.instObj C dx) C (some od) ∧ ∀ name, PySem.W.lookIn name od = some (mA name) :=
  let ⟨od, ho, hl⟩ := lookIn_ns I.ns
  ⟨od, ⟨I.obj, rfl, rfl, ho⟩, hl⟩
section
variable {prog : Program} {w : World} {A : Around} {E : Value → Shared → Prop} {s : Shared} {K : PySem.W.Frag} {x dx C f : Addr} {mA : Str → Option Value} {name : Str} {v : Value}
theorem get_map {expr : Bool} {Q : Value → Shared → Prop} (X : K.In s.heap) (I : ObjM s.heap x dx C mA) (hg : PySem.W.plainGet K C name = true) (hh : PySem.W.hasDictIn K C = true)
    (ha : PySem.W.findIn K (.ref C) name = some none) (hv : mA name = some v) (hv' : PySem.W.handedIn v = true) (h : Q v { s with toks := s.toks + 1 }) :
    wpAny (model prog w) A (getAttr (.ref x) name expr) Q E s := by
  obtain ⟨od, J, hl⟩ := I.look
  exact PySem.W.get_value X J (PySem.W.plainGet_of hg).1 (PySem.W.findObj_own hh ha rfl (by rw [hl, hv])) hv' h
theorem set_map {ns : List Str} {Q : Unit → Shared → Prop} (X : K.In s.heap) (I : ObjM s.heap x dx C mA)
    (hs : PySem.W.findIn K (.ref C) "__setattr__" = some (some (.builtin "object.__setattr__"))) (hp : PySem.W.plainOver K C = true) (ht : PySem.W.takerIn K C name = some none) (hh : PySem.W.hasDictIn K C = true)
    (hw : PySem.Within mA ns) (hsz : ns.length ≤ sizeLine)
    (h : ∀ h', ObjM h' x dx C (fun y => if y = name then some v else mA y) → Heap.SameBut dx s.heap h' → Q () { s with heap := h', toks := s.toks + 2 }) :
    wpAny (model prog w) A (setAttr (.ref x) name v) Q E s := by
  obtain ⟨od, J, hl⟩ := I.look
  refine PySem.W.set_plain X J hs (PySem.W.osa_open (s := { s with toks := s.toks + 1 }) (r := none) X J hp ht fun b => ?_)
  obtain ⟨cd, hc, hd'⟩ := PySem.W.any_some hh
  have hx : s.heap.get? x = some ⟨.ref C, some dx, .plain, #[]⟩ := I.obj
  refine wpAny_bind (wpAny_pure (wpAny_bind (wpAny_bind (wpAny_loadPart hx (wpAny_bind (PySem.W.Looks.here (s := { s with toks := s.toks + 1 }) (PySem.W.looks_clsIn X hc) ?_))))))
  rw [hd']
  refine wpAny_pure (a := some dx) (wpAny_bind (wpAny_pure (wpAny_bind ?_)))
  refine wpAny_nsSet1 (s := { s with toks := s.toks + 1 }) I.ns fun h' hn2 hs2 => ?_
  obtain ⟨oD, esD, epD, hoD, hdD, hcD⟩ := hn2.count (PySem.Within.cons name v hw)
  refine wpAny_bind (wpAny_lookBehind hoD (by rw [hdD]; exact pastItsLine_dict (Nat.le_trans hcD (by rw [List.length_cons]; omega))) ?_)
  exact wpAny_pure (h _ ⟨(hs2.2 _ (Ne.symm I.ne)).trans I.obj, hn2, I.ne⟩ hs2)
/-- C(..): the dict at the heap's end, the instance behind it; then its __init__ -/
theorem make_map {R : Result → Shared → Prop} {vs : List Value} {kw : List (Str × Value)} (X : K.In s.heap) (hm : PySem.W.makesIn K C = true)
    (hi : PySem.W.findIn K (.ref C) "__init__" = some (some (.ref f))) (hf : PySem.W.typeIn K (.ref f) = some (.type "function"))
    (h : codeAny (model prog w) (A.under (.builtin "type.__call__" ⟨.ref C :: vs, kw⟩)) (.call (.ref f) ⟨.ref (s.heap.objs.size + 1) :: vs, kw⟩) (PySem.W.InitBack (s.heap.objs.size + 1) R)
      { s with heap := (s.heap.push PySem.W.emptyDict).push (PySem.W.instObj C s.heap.objs.size) }) :
    codeAny (model prog w) A (.call (.ref C) ⟨vs, kw⟩) R s := by
  obtain ⟨hh, g, d, t, os⟩ := s
  exact PySem.W.make_core (PySem.W.makes_of X hm) (PySem.W.looks_findIn X hi) (fun self => PySem.W.bind_fn X self hf) (.inl rfl) h
end
/-! ### the attributes as a list of pairs -/
def putF (f : Str) (v : V) : List (Str × V) → List (Str × V)
  | [] => [(f, v)]
  | (g, x) :: r => if g = f then (g, v) :: r else (g, x) :: putF f v r
theorem lookup_putF (f g : Str) (v : V) : ∀ fs : List (Str × V), (putF f v fs).lookup g = if g = f then some v else fs.lookup g
  | [] => by
    show List.lookup g [(f, v)] = _
    by_cases h : g = f
    · have hb : (g == f) = true := beq_iff_eq.mpr h
      simp only [List.lookup, hb, if_pos h]
    · have hb : (g == f) = false := beq_eq_false_iff_ne.mpr h
      simp only [List.lookup, hb, if_neg h]
  | (k, x) :: r => by
    have ih := lookup_putF f g v r
    rw [show putF f v ((k, x) :: r) = (if k = f then (k, v) :: r else (k, x) :: putF f v r) from rfl]
    by_cases hk : k = f
    · rw [if_pos hk]
      by_cases h : g = k
      · have hb : (g == k) = true := beq_iff_eq.mpr h
        simp only [List.lookup, hb, if_pos (h.trans hk)]
      · have hb : (g == k) = false := beq_eq_false_iff_ne.mpr h
        simp only [List.lookup, hb, if_neg (fun e : g = f => h (e.trans hk.symm))]
    · rw [if_neg hk]
      by_cases h : g = k
      · have hb : (g == k) = true := beq_iff_eq.mpr h
        simp only [List.lookup, hb, if_neg (fun e : g = f => hk (h.symm.trans e))]
      · have hb : (g == k) = false := beq_eq_false_iff_ne.mpr h
        simp only [List.lookup, hb]
        exact ih
theorem keys_putF (f : Str) (v : V) : ∀ fs : List (Str × V), f ∈ (putF f v fs).map (·.1) ∧ ∀ g, g ∈ fs.map (·.1) → g ∈ (putF f v fs).map (·.1)
  | [] => ⟨by simp [putF], fun g h => by simp at h⟩
  | (k, x) :: r => by
    obtain ⟨i1, i2⟩ := keys_putF f v r
    rw [show putF f v ((k, x) :: r) = (if k = f then (k, v) :: r else (k, x) :: putF f v r) from rfl]
    by_cases hk : k = f
    · rw [if_pos hk]
      subst hk
      exact ⟨by simp, fun g h => by simpa using h⟩
    · rw [if_neg hk]
      refine ⟨?_, fun g h => ?_⟩
      · rw [List.map_cons]
        exact List.mem_cons_of_mem _ i1
      · rw [List.map_cons] at h ⊢
        rcases List.mem_cons.mp h with e | e
        · exact List.mem_cons.mpr (.inl e)
        · exact List.mem_cons_of_mem _ (i2 g e)
theorem length_putF (f : Str) (v : V) : ∀ fs : List (Str × V), (putF f v fs).length ≤ fs.length + 1
  | [] => by simp [putF]
  | (k, x) :: r => by
    have ih := length_putF f v r
    rw [show putF f v ((k, x) :: r) = (if k = f then (k, v) :: r else (k, x) :: putF f v r) from rfl]
    by_cases hk : k = f
    · rw [if_pos hk, List.length_cons, List.length_cons]; omega
    · rw [if_neg hk, List.length_cons, List.length_cons]; omega
theorem RelO.some_of {v : V} {o : Option Value} (r : RelO (some v) o) : ∃ u, o = some u ∧ RelV v u := by
  cases o with
  | none => exact (show False from r).elim
  | some u => exact ⟨u, rfl, r⟩
theorem handed_of {v : V} {u : Value} (r : RelV v u) : PySem.W.handedIn u = true := by
  cases v with
  | non => cases (show u = Value.none from r); rfl
  | bl b => cases (show u = Value.bool b from r); rfl
  | int i => obtain ⟨t, e⟩ := (show ∃ t, u = Value.int i t from r); cases e; rfl
  | str x => obtain ⟨t, e⟩ := (show ∃ t, u = Value.str x t from r); cases e; rfl
  | byt b => obtain ⟨t, e⟩ := (show ∃ t, u = Value.bytes b t from r); cases e; rfl
  | flt b => obtain ⟨t, e⟩ := (show ∃ t, u = Value.float b t from r); cases e; rfl
  | ref a => cases (show u = Value.ref a from r); rfl
  | ty n => cases (show u = Value.type n from r); rfl
section
variable {P : Program} {w : World} {H H' : Hp} {h h' : Heap} {a C dx : Addr} {fs fs' : List (Str × V)}
theorem ins_get (hok : HOk P w H h) (e : H a = some (.ins C dx fs)) : ∃ mA, ObjM h a dx C mA ∧ (∀ f, RelO (fs.lookup f) (mA f)) ∧ PySem.Within mA (fs.map (·.1)) ∧ fs.length ≤ 1000 ∧ H dx = some (.own a) := by
  obtain ⟨d, z, ne, ob, mA, n, r, q⟩ := (show ObjOk P w H h a (.ins C dx fs) from hok a _ e)
  exact ⟨mA, ⟨ob, n, ne⟩, r, q, z, d⟩
end
/-! ### what of the text a class must have -/
structure Cls (K : PySem.W.Frag) (C : Addr) : Prop where
  pg : PySem.W.plainGet K C Str.empty = true
  hd : PySem.W.hasDictIn K C = true
  po : PySem.W.plainOver K C = true
  sa : PySem.W.findIn K (.ref C) "__setattr__" = some (some (.builtin "object.__setattr__"))
theorem Cls.get {K : PySem.W.Frag} {C : Addr} (c : Cls K C) (f : Str) : PySem.W.plainGet K C f = true := c.pg
/-- no class of it has the name -/
def NoAttr (K : PySem.W.Frag) (C : Addr) (f : Str) : Prop := PySem.W.findIn K (.ref C) f = some none
theorem NoAttr.taker {K : PySem.W.Frag} {C : Addr} {f : Str} (n : NoAttr K C f) : PySem.W.takerIn K C f = some none := by
  unfold PySem.W.takerIn
  rw [show PySem.W.findIn K (.ref C) f = some none from n]
  rfl
section
variable {X : Cx} {pins : List (Addr × Obj)} {σ : St} {H : Hp} {s : Shared} {a C dx : Addr} {fs : List (Str × V)} {f : Str} {v : V} {A : Around} {E : Value → Shared → Prop}
theorem getattr_ok {b : Bool} {Q : Value → Shared → Prop} (I : Inv X pins σ H s) (e : H a = some (.ins C dx fs)) (c : Cls X.K C) (n : NoAttr X.K C f) (l : fs.lookup f = some v)
    (h : ∀ u s', Inv X pins σ H s' → RelV v u → Q u s') : wpAny (model X.prog X.w) A (getAttr (.ref a) f b) Q E s := by
  obtain ⟨mA, O, r, _, _, _⟩ := ins_get I.hok e
  obtain ⟨u, hu, ru⟩ := RelO.some_of (v := v) (o := mA f) (by rw [← l]; exact r f)
  exact get_map I.kIn O (c.get f) c.hd n hu (handed_of ru) (h u _ (I.tok _) ru)
theorem setattr_ok {y : V} {u : Value} {Q : Unit → Shared → Prop} (I : Inv X pins σ H s) (e : H a = some (.ins C dx fs)) (c : Cls X.K C) (n : NoAttr X.K C f) (hl : fs.length < 1000) (ry : RelV y u)
    (h : ∀ s', Inv X pins σ (upd H a (.ins C dx (putF f y fs))) s' → Q () s') : wpAny (model X.prog X.w) A (setAttr (.ref a) f u) Q E s := by
  obtain ⟨mA, O, r, wi, _, ho⟩ := ins_get I.hok e
  have hz : (fs.map (·.1)).length ≤ sizeLine := by rw [List.length_map, sizeLine_eq]; omega
  refine set_map I.kIn O c.sa c.po n.taker c.hd wi hz fun h' O' sb => h _ ?_
  have hd : ∃ o, h'.get? dx = some o := let ⟨o, _, _, e', _⟩ := O'.ns; ⟨o, e'⟩
  refine I.write (x := a) (e := dx) (by rw [e]; exact True.intro) (.inr ho) (fun b q hb z => (sb.2 b hb).trans z) hd ?_
  refine ⟨by rw [upd_ne O.ne]; exact ho, ?_, O.ne, O'.obj, _, O'.ns, fun g => ?_, fun g hg => ?_⟩
  · have := length_putF f y fs; omega
  · show RelO ((putF f y fs).lookup g) (if g = f then some u else mA g)
    rw [lookup_putF]
    by_cases q : g = f
    · rw [if_pos q, if_pos q]; exact ry
    · rw [if_neg q, if_neg q]; exact r g
  · by_cases q : g = f
    · rw [q]; exact (keys_putF f y fs).1
    · refine (keys_putF f y fs).2 g (wi g fun z => hg ?_)
      show (if g = f then some u else mA g) = none
      rw [if_neg q]; exact z
/-- a new instance, tracked, without attributes -/
theorem Inv.made (I : Inv X pins σ H s) : Inv X pins σ (upd (upd H s.heap.objs.size (.own (s.heap.objs.size + 1))) (s.heap.objs.size + 1) (.ins C s.heap.objs.size []))
    { s with heap := (s.heap.push PySem.W.emptyDict).push (PySem.W.instObj C s.heap.objs.size) } := by
  have e1 : (s.heap.push PySem.W.emptyDict).get? s.heap.objs.size = some PySem.W.emptyDict := Heap.get?_push_size s.heap rfl
  have e2 : ((s.heap.push PySem.W.emptyDict).push (PySem.W.instObj C s.heap.objs.size)).get? (s.heap.objs.size + 1) = some (PySem.W.instObj C s.heap.objs.size) := by
    have := Heap.get?_push_size (s.heap.push PySem.W.emptyDict) (o := PySem.W.instObj C s.heap.objs.size) rfl
    rwa [Heap.size_push] at this
  have e3 : (s.heap.push PySem.W.emptyDict).Ns s.heap.objs.size (fun _ => none) := ⟨PySem.W.emptyDict, #[], _, e1, rfl, (fun e he => absurd he (by simp)), fun _ => rfl⟩
  have I1 := I.laid (a := s.heap.objs.size) (o := .own (s.heap.objs.size + 1)) (h' := s.heap.push PySem.W.emptyDict) (t' := s.toks) (fun b u q => Heap.get?_push_of_some _ q) (Nat.le_refl _) ⟨_, e1⟩
  refine I1.laid (a := s.heap.objs.size + 1) (o := .ins C s.heap.objs.size []) (t' := s.toks) (fun b u q => Heap.get?_push_of_some _ q) (Nat.le_of_eq (Heap.size_push _ _)) ?_
  have ne : s.heap.objs.size ≠ s.heap.objs.size + 1 := Nat.ne_of_lt (Nat.lt_succ_self _)
  refine ⟨by rw [upd_ne ne, upd_same], Nat.zero_le _, ne, e2, fun _ => none, (Heap.Ns1.of_empty e3).at fun o q => Heap.get?_push_of_some _ q, fun _ => True.intro, fun y hy => absurd rfl hy⟩
/-- e.f where nothing but the object is asked: through attributeBase (super) and the last hold -/
theorem attr_of {prog : Program} {w : World} {env : Env} {e : Expr} {f : Str} {pos : Pos} {s : Shared} {Q : Value → Shared → Prop} (hb : attributeBase e f env (eval e env) = eval e env)
    (h : wpAny (model prog w) A (eval e env) (fun o s₁ => wpAny (model prog w) A (getAttr o f true) Q E s₁) E s) : wpAny (model prog w) A (eval (.Attribute e f pos) env) Q E s :=
  Attribute_any_ h (by rw [arm_eval_Attribute, hb])
end
/-! ### readings and rules -/
/-- e.f, an attribute of the instance -/
def tFld (K : PySem.W.Frag) (ta : TE) (f : Str) : TE := fun σ H Q => ta σ H fun x H1 => ∃ a C dx fs v, x = .ref a ∧ H1 a = some (.ins C dx fs) ∧ Cls K C ∧ NoAttr K C f ∧ fs.lookup f = some v ∧ Q v H1
/-- e.f = value -/
def sFld (K : PySem.W.Frag) (ta tv : TE) (f : Str) : TS := fun D σ H => tv σ H fun y H1 => ta σ H1 fun x H2 => ∃ a C dx fs, x = .ref a ∧ H2 a = some (.ins C dx fs) ∧ Cls K C ∧ NoAttr K C f ∧ fs.length < 1000 ∧
  D.nx σ (upd H2 a (.ins C dx (putF f y fs)))
section
variable {X : Cx} {o e value : Expr} {f : Str} {pos pos' tpos : Pos} {ta tv : TE}
theorem pe_fld (he : PE X e ta) (hb : attributeBase e f X.env (eval e X.env) = eval e X.env) : PE X (.Attribute e f pos) (tFld X.K ta f) := by
  intro pins s σ H Q I h
  refine attr_of hb (thn (he pins s σ H _ I h) fun u s1 ⟨x, H1, I1, rx, a, C, dx, fs, v, ex, ea, c, n, l, q⟩ => ?_)
  subst ex
  obtain rfl : u = Value.ref a := rx
  exact getattr_ok I1 ea c n l fun u' s2 I2 ru => ⟨v, H1, I2, ru, q⟩
theorem ps_fld (ha : PE X o ta) (hv : PE X value tv) (hs : swapsWith value (some (.Attribute o f pos')) pos.line X.env = pure false) : PS X (.Assign [.Attribute o f pos'] value pos) (sFld X.K ta tv f) := by
  intro pins s σ H D I h
  refine plainObj_wpAny_Assign_Attribute (thn (hv pins s σ H _ I h) fun u s1 ⟨y, H1, I1, ry, q⟩ => thn (ha pins s1 σ H1 _ I1 q) fun ov s2 ⟨x, H2, I2, rx, a, C, dx, fs, ex, ea, c, n, l, q2⟩ => ?_) hs
  subst ex
  obtain rfl : ov = Value.ref a := rx
  exact setattr_ok I2 ea c n l ry fun s3 I3 => ⟨σ, _, I3, q2⟩
end
/-! ### isinstance -/
section
variable {X : Cx} {pins : List (Addr × Obj)} {σ : St} {H : Hp} {s : Shared} {A : Around} {E : Value → Shared → Prop} {Q : Value → Shared → Prop} {c : Value} {b : Bool}
end
end L2
namespace L2
open PySem PySem.Spec PyProof.Rows
/-! ### room -/
structure Room (k : Nat) (A : Around) : Prop where
  hd : A.handled = none
  dp : A.depth + 3 * k + 5 < recursionLimit
  un : A.units + 16 * k + 200 < cLine
theorem Room.mono {j k : Nat} {A : Around} (r : Room k A) (h : j ≤ k) : Room j A := ⟨r.hd, by have := r.dp; omega, by have := r.un; omega⟩
theorem Room.deeper {k : Nat} {A : Around} (r : Room (k + 1) A) (env : Env) : Room k (A.deeper env) :=
  ⟨r.hd, by have := r.dp; show A.depth + 1 + 3 * k + 5 < _; omega, by have := r.un; show A.units + 3 + 16 * k + 200 < _; omega⟩
theorem make_depth {A : Around} {C : Addr} {us : List Value} {kw : List (Str × Value)} : (A.under (.builtin "type.__call__" ⟨.ref C :: us, kw⟩)).depth = A.depth + 1 := by
  first | rfl | simp [Around.under, Code.weight, Code.isCreation, Code.isGuard, Code.isCaller, Code.frames, Code.isFrame, guardIds]
theorem make_units {A : Around} {C : Addr} {us : List Value} {kw : List (Str × Value)} : (A.under (.builtin "type.__call__" ⟨.ref C :: us, kw⟩)).units = A.units + 1 := by
  first | rfl | simp [Around.under, Code.cUnits, Code.frames, Code.isFrame]
theorem Room.make {k : Nat} {A : Around} (r : Room (k + 1) A) (C : Addr) (us : List Value) (kw : List (Str × Value)) : Room k (A.under (.builtin "type.__call__" ⟨.ref C :: us, kw⟩)) :=
  ⟨r.hd, by have := r.dp; rw [make_depth]; omega, by have := r.un; rw [make_units]; omega⟩
theorem Room.depth {k : Nat} {A : Around} (r : Room k A) : A.depth < recursionLimit := by have := r.dp; omega
theorem Room.units {k : Nat} {A : Around} (r : Room k A) : A.units + 64 < cLine := by have := r.un; omega
theorem Room.units0 {k : Nat} {A : Around} (r : Room k A) : A.units < cLine := by have := r.un; omega
/-! ### argument lists and displays -/
def tNil : TA := fun _ H Q => Q [] H
def tCons (ta : TE) (tr : TA) : TA := fun σ H Q => ta σ H fun x H1 => tr σ H1 fun xs H2 => Q (x :: xs) H2
section
variable {X : Cx} {e : Expr} {es : List Expr} {te : TE} {t : TA} {pos : Pos}
theorem pa_nil : PA X [] tNil := fun _ _ _ _ H Q I h => Calls.spliced_nil ⟨[], H, I, .nil, h⟩
theorem pa_cons (ha : PE X e te) (hr : PA X es t) (hs : starEach (e :: es) X.env = (false, eval e X.env) :: starEach es X.env := by rfl) : PA X (e :: es) (tCons te t) := by
  intro pos pins s σ H Q I h
  rw [hs]
  show wpAny _ _ (spliced ((false, eval e X.env) :: backTo pos (starEach es X.env))) _ _ s
  refine Calls.spliced_cons (thn (ha pins s σ H _ I h) fun u s1 ⟨x, H1, I1, r1, q1⟩ => ?_)
  exact thn (hr pos pins s1 σ H1 _ I1 q1) fun us s2 ⟨xs, H2, I2, r2, q2⟩ => ⟨x :: xs, H2, I2, .cons r1 r2, q2⟩
/-- a tuple, a list of written items -/
def tTup (t : TA) : TE := fun σ H Q => t σ H fun xs H1 => xs.length ≤ sizeLine ∧ ∀ p, H1 p = none → Q (.ref p) (upd H1 p (.tup xs))
def tLst (t : TA) : TE := fun σ H Q => t σ H fun xs H1 => xs.length ≤ sizeLine ∧ ∀ p, H1 p = none → Q (.ref p) (upd H1 p (.lst xs))
theorem pe_tup {x1} (h : PA X es t) : PE X (.Tuple es x1 pos) (tTup t) := by
  intro pins s σ H Q I hq
  refine wpAny_Tuple_spliced (thn (h pos pins s σ H _ I hq) fun us s1 ⟨xs, H1, I1, r, z, q⟩ => ⟨by rw [← r.length]; exact z, ?_⟩)
  have hf : H1 s1.heap.objs.size = none := I1.hok.fresh (Nat.le_refl _)
  refine ⟨.ref s1.heap.objs.size, upd H1 s1.heap.objs.size (.tup xs), I1.laid (t' := s1.toks) (fun b u e => Heap.get?_push_of_some _ e) (Nat.le_refl _) ?_, rfl, q _ hf⟩
  exact ⟨z, us, r, ⟨_, Heap.get?_push_size _ rfl, rfl, _, rfl⟩⟩
theorem pe_lst (h : PA X es t) : PE X (.List es pos) (tLst t) := by
  intro pins s σ H Q I hq
  refine wpAny_List_spliced (thn (h pos pins s σ H _ I hq) fun us s1 ⟨xs, H1, I1, r, z, q⟩ => ⟨by rw [← r.length]; exact z, ?_⟩)
  have hf : H1 s1.heap.objs.size = none := I1.hok.fresh (Nat.le_refl _)
  refine ⟨.ref s1.heap.objs.size, upd H1 s1.heap.objs.size (.lst xs), I1.laid (t' := s1.toks) (fun b u e => Heap.get?_push_of_some _ e) (Nat.le_refl _) ?_, rfl, q _ hf⟩
  exact ⟨z, us, 0, r, Heap.get?_push_size _ rfl⟩
end
/-! ### what a def promises -/
/-- a def's promise: the bound arguments in the parameters' order, the heap, the wanted end, the wanted exception -/
abbrev Sp := List V → Hp → VK → XK → Prop
/-- how an exception lies behind a call (file 08 gives it): the callers' frames, abstract heap and state ahead of the call, the wish, the exception, the state -/
abbrev CXT := List Env → Hp → Shared → XK → Value → Shared → Prop
/-- the state at a call -/
structure Env0 (P : Program) (w : World) (K : PySem.W.Frag) (mg : Str → Option Value) (base : Heap) (A : Around) (outer : List Env) (s : Shared) (H : Hp) : Prop where
  frames : A.frames = some outer
  mod : Mod K mg base
  bs : ∀ b o, base.get? b = some o → s.heap.get? b = some o ∧ H b = none
  bsz : base.objs.size ≤ s.heap.objs.size
  funs : s.heap.FunFrames base outer
  frf : ∀ b ∈ frs outer, H b = none
  hok : HOk P w H s.heap
  bare : AllBare s.gens
/-- a call's end -/
def CE (outer : List Env) (P : Program) (w : World) (H : Hp) (s : Shared) (Q : VK) (u : Value) (s' : Shared) : Prop :=
  ∃ v H', s'.os = s.os ∧ AllBare s'.gens ∧ Un (frs outer) [] H H' s.heap s'.heap ∧ HOk P w H' s'.heap ∧ RelV v u ∧ Q v H'
def CR (CX : CXT) (outer : List Env) (P : Program) (w : World) (H : Hp) (s : Shared) (Q : VK) (E : XK) (r : Result) (s' : Shared) : Prop :=
  match r with
  | .ok (.ret u) => CE outer P w H s Q u s'
  | .ok _ => False
  | .error e => CX outer H s E e s'
structure FnOk (P : Program) (w : World) (K : PySem.W.Frag) (mg : Str → Option Value) (base : Heap) (CX : CXT) (k : Nat) (f : Addr) (fd : FuncData) (ps : List Str) (sp : Sp) : Prop where
  len : ∀ vs H Q E, sp vs H Q E → vs.length = ps.length
  run : ∀ (A : Around) (outer : List Env) (s : Shared) (H : Hp) (args : Args) (us : List Value) (vs : List V) (Q : VK) (E : XK), Room k A → Env0 P w K mg base A outer s H → BindsTo s fd args (ps.zip us) → Vals vs us → sp vs H Q E →
    codeAny (model P w) A (.call (.ref f) args) (CR CX outer P w H s Q E) s
theorem Env0.make {P : Program} {w : World} {K : PySem.W.Frag} {mg : Str → Option Value} {base : Heap} {A : Around} {outer : List Env} {s : Shared} {H : Hp} (e : Env0 P w K mg base A outer s H) (C : Addr) (us : List Value) (kw : List (Str × Value)) :
    Env0 P w K mg base (A.under (.builtin "type.__call__" ⟨.ref C :: us, kw⟩)) outer s H := ⟨by first | exact e.frames | (simpa [Around.under, Code.envs, Code.isFrame, pushEnvs] using e.frames), e.mod, e.bs, e.bsz, e.funs, e.frf, e.hok, e.bare⟩
section
variable {X : Cx} {pins : List (Addr × Obj)} {σ : St} {H : Hp} {s s' : Shared}
/-- from a body: what a callee wants -/
theorem Inv.env0 (I : Inv X pins σ H s) : Env0 X.prog X.w X.K X.mg X.base X.A X.stack s H :=
  ⟨I.ok.frames, I.ok.mod, I.bs, Nat.le_trans I.ok.bsz I.sz, I.stack, I.stkFree, I.hok, I.bare⟩
/-- behind a call -/
theorem Inv.after {Q : VK} {u : Value} (I : Inv X pins σ H s) (h : CE X.stack X.prog X.w H s Q u s') : EP X pins σ Q u s' := by
  obtain ⟨v, H', os, bare, un, hok, r, q⟩ := h
  obtain ⟨hh, g, d, t, os'⟩ := s'
  obtain rfl : os' = s.os := os
  exact ⟨v, H', I.call (h' := hh) (g' := g) (d' := d) (t' := t) (ch := []) un hok bare (fun b z => absurd z (by simp)), r, q⟩
end
/-! ### calls -/
/-- f(..): the written arguments, then the defaults dvs; E: what is wanted of an exception -/
def tCall (sp : Sp) (dvs : List V) (E : XK) (t : TA) : TE := fun σ H Q => t σ H fun vs H1 => sp (vs ++ dvs) H1 Q E
/-- C(..): a new instance and its dict, then __init__ -/
def tMake (C : Addr) (sp : Sp) (dvs : List V) (E : XK) (t : TA) : TE := fun σ H Q => t σ H fun vs H1 => ∀ x dx, H1 x = none → H1 dx = none → dx ≠ x →
  sp (.ref x :: (vs ++ dvs)) (upd (upd H1 dx (.own x)) x (.ins C dx [])) (fun v H2 => v = .non ∧ Q (.ref x) H2) E
/-- how the parameters are bound: us the positional arguments, kw the keywords' values by name, ds the defaults that fill up -/
def Binds (K : PySem.W.Frag) (fd : FuncData) (ps : List Str) (ds : List Value) : Prop :=
  ∀ (s : Shared) (us : List Value), K.In s.heap → (us ++ ds).length = ps.length → BindsTo s fd ⟨us, []⟩ (ps.zip (us ++ ds))
/-- every parameter is given -/
theorem Binds.all {K : PySem.W.Frag} {fd : FuncData} {ps : List Str} (h : ∀ us : List Value, us.length = ps.length → bindArgs fd ⟨us, []⟩ = pure (ps.zip us)) : Binds K fd ps [] := fun s us _ hl => by
  rw [List.append_nil] at hl ⊢
  exact .of_eq (h us hl)
/-- an exception of a callee reaches what this body wants of exceptions -/
def Passes (CX : CXT) (X : Cx) (E : XK) : Prop := ∀ (pins : List (Addr × Obj)) (σ : St) (H : Hp) (s : Shared) (e : Value) (s' : Shared), Inv X pins σ H s → CX X.stack H s E e s' → X.xe e s'
section
variable {X : Cx} {CX : CXT} {k : Nat} {f C : Addr} {fd : FuncData} {ps : List Str} {sp : Sp} {dvs : List V} {ds : List Value} {E : XK} {x m : Str} {p pos apos : Pos} {e o : Expr} {es : List Expr} {ta : TE} {t : TA}
/-- the callee runs -/
theorem run_fn {pins : List (Addr × Obj)} {σ : St} {H : Hp} {s : Shared} {Q : VK} {us : List Value} {vs : List V} (F : FnOk X.prog X.w X.K X.mg X.base CX k f fd ps sp) (hr : Room k X.A) (hb : Binds X.K fd ps ds) (hd : Vals dvs ds) (hx : Passes CX X E)
    (I : Inv X pins σ H s) (r : Vals vs us) (h : sp (vs ++ dvs) H Q E) : wpAny (model X.prog X.w) X.A (call (.ref f) us) (EP X pins σ Q) X.xe s := by
  have r2 : Vals (vs ++ dvs) (us ++ ds) := r.append hd
  have hl : (us ++ ds).length = ps.length := by rw [← r2.length]; exact F.len _ _ _ _ h
  refine wpAny_call (codeAny_mono (F.run X.A X.stack s H ⟨us, []⟩ (us ++ ds) (vs ++ dvs) Q E hr I.env0 (hb s us I.kIn hl) r2 h) fun r s' hq => ?_)
  cases r with
  | error e => exact hx pins σ H s e s' I hq
  | ok fl =>
    cases fl with
    | ret u => exact I.after hq
    | next => exact False.elim hq
    | brk => exact False.elim hq
    | cont => exact False.elim hq
theorem pe_call (F : FnOk X.prog X.w X.K X.mg X.base CX k f fd ps sp) (hr : Room k X.A) (hg : Gl X x) (hm : X.mg x = some (.ref f)) (hk : PySem.W.keepIn X.K (.ref f) = true) (hb : Binds X.K fd ps ds) (hd : Vals dvs ds) (hx : Passes CX X E)
    (ha : PA X (e :: es) t) (hdb : (x == ("__debug__" : Str)) = false := by decide) (he : starEach (e :: es) X.env = (false, eval e X.env) :: starEach es X.env := by rfl) (hpl : (backTo pos (starEach es X.env)).any (·.1) = false := by rfl) :
    PE X (.Call (.Name x p) (e :: es) [] pos) (tCall sp dvs E t) := by
  intro pins s σ H Q I h
  refine wpAny_Call_Name_kw (ld_glob I hg hm ?_ hdb)
  refine PySem.W.callWith_K (h₀ := X.base) I.ok.mod.kin hk (thn (ha pos pins s σ H _ I h) fun us s1 ⟨vs, H1, I1, r, q⟩ => ⟨I1.kIn, ?_⟩) he hpl
  exact run_fn F hr hb hd hx I1 r q
/-- what a class must have to be made -/
structure Mk (K : PySem.W.Frag) (C f : Addr) : Prop where
  makes : PySem.W.makesIn K C = true
  init : PySem.W.findIn K (.ref C) "__init__" = some (some (.ref f))
  fn : PySem.W.isFn K (.ref f) = true
  kp : PySem.W.keepIn K (.ref C) = true
theorem run_make {pins : List (Addr × Obj)} {σ : St} {H : Hp} {s : Shared} {Q : VK} {us : List Value} {vs : List V} (M : Mk X.K C f) (F : FnOk X.prog X.w X.K X.mg X.base CX k f fd ps sp) (hr : Room (k + 1) X.A) (hb : Binds X.K fd ps ds) (hd : Vals dvs ds)
    (hx : Passes CX X E) (I : Inv X pins σ H s) (r : Vals vs us)
    (h : ∀ x dx, H x = none → H dx = none → dx ≠ x → sp (.ref x :: (vs ++ dvs)) (upd (upd H dx (.own x)) x (.ins C dx [])) (fun v H2 => v = .non ∧ Q (.ref x) H2) E) :
    wpAny (model X.prog X.w) X.A (call (.ref C) us) (EP X pins σ Q) X.xe s := by
  have hq := h (s.heap.objs.size + 1) s.heap.objs.size (I.hok.fresh (Nat.le_succ _)) (I.hok.fresh (Nat.le_refl _)) (Nat.ne_of_lt (Nat.lt_succ_self _))
  have I2 := Inv.made (C := C) I
  have r2 : Vals (V.ref (s.heap.objs.size + 1) :: (vs ++ dvs)) (Value.ref (s.heap.objs.size + 1) :: (us ++ ds)) := .cons rfl (r.append hd)
  have hl : (Value.ref (s.heap.objs.size + 1) :: us ++ ds).length = ps.length := by
    have e := r2.length
    rw [F.len _ _ _ _ hq] at e
    exact e.symm
  refine wpAny_call (make_map (f := f) I.kIn M.makes M.init (beq_iff_eq.mp M.fn) (codeAny_mono (F.run _ X.stack _ _ ⟨Value.ref (s.heap.objs.size + 1) :: us, []⟩ (Value.ref (s.heap.objs.size + 1) :: (us ++ ds)) _ _ E (hr.make C us [])
    (I2.env0.make C us []) (hb _ (Value.ref (s.heap.objs.size + 1) :: us) I2.kIn hl) r2 hq) fun r s' hq' => ?_))
  cases r with
  | error e => exact hx pins σ _ _ e s' I2 hq'
  | ok fl =>
    cases fl with
    | ret u =>
      obtain ⟨v, H', I3, rv, ev, q3⟩ := I2.after hq'
      subst ev
      exact ⟨rv, ⟨V.ref (s.heap.objs.size + 1), H', I3, rfl, q3⟩⟩
    | next => exact False.elim hq'
    | brk => exact False.elim hq'
    | cont => exact False.elim hq'
theorem pe_make (M : Mk X.K C f) (F : FnOk X.prog X.w X.K X.mg X.base CX k f fd ps sp) (hr : Room (k + 1) X.A) (hg : Gl X x) (hm : X.mg x = some (.ref C)) (hb : Binds X.K fd ps ds) (hd : Vals dvs ds) (hx : Passes CX X E)
    (ha : PA X (e :: es) t) (hdb : (x == ("__debug__" : Str)) = false := by decide) (he : starEach (e :: es) X.env = (false, eval e X.env) :: starEach es X.env := by rfl) (hpl : (backTo pos (starEach es X.env)).any (·.1) = false := by rfl) :
    PE X (.Call (.Name x p) (e :: es) [] pos) (tMake C sp dvs E t) := by
  intro pins s σ H Q I h
  refine wpAny_Call_Name_kw (ld_glob I hg hm ?_ hdb)
  refine PySem.W.callWith_K (h₀ := X.base) I.ok.mod.kin M.kp (thn (ha pos pins s σ H _ I h) fun us s1 ⟨vs, H1, I1, r, q⟩ => ⟨I1.kIn, ?_⟩) he hpl
  exact run_make M F hr hb hd hx I1 r q
end
/-! ### keywords -/
section
variable {X : Cx} {CX : CXT} {k : Nat} {f C : Addr} {fd : FuncData} {ps ks : List Str} {sp : Sp} {E : XK} {x m : Str} {p pos apos kpos : Pos} {e o : Expr} {es : List Expr} {kws : List Keyword} {te ta : TE} {t tk : TA} {nm : Option Str}
variable {g : List Value → List Value → List Value} {gV : List V → List V → List V}
end
/-! ### a def's body keeps its promise -/
/-- names: the parameters first -/
structure FnScope (N P : List Str) (sc : Scope) : Prop where
  kind : sc.kind = .function
  co : sc.isCoroutine = false
  gen : sc.isGenerator = false
  nd : N.Nodup
  pre : N.take P.length = P
  par : ∀ x ∈ P, sc.names.lookup x = some .local ∨ sc.names.lookup x = some .cell
  nofree : ∀ y ∈ sc.names, y.2 ≠ .free
theorem bindL_out {kindOf : Str → Option NameKind} {x : Str} : ∀ {binds : List (Str × Value)} {m : Str → Option Value}, (∀ v, (x, v) ∉ binds) → bindL kindOf binds m x = m x
  | [], _, _ => rfl
  | (n, v) :: r, m, h => by
    unfold bindL
    rw [bindL_out fun w hw => h w (List.mem_cons_of_mem _ hw)]
    split
    · have : x ≠ n := by rintro rfl; exact h v List.mem_cons_self
      simp [this]
    · rfl
theorem bindC_out {kindOf : Str → Option NameKind} {x : Str} : ∀ {binds : List (Str × Value)} {m : Str → Option Value}, (∀ v, (x, v) ∉ binds) → bindC kindOf binds m x = m x
  | [], _, _ => rfl
  | (n, v) :: r, m, h => by
    unfold bindC
    rw [bindC_out fun w hw => h w (List.mem_cons_of_mem _ hw)]
    split
    · rfl
    · have : x ≠ n := by rintro rfl; exact h v List.mem_cons_self
      simp [this]
theorem bindL_get {kindOf : Str → Option NameKind} {x : Str} {v : Value} : ∀ {P : List Str} {vs : List Value} {i : Nat} {m : Str → Option Value}, P.Nodup → P[i]? = some x → vs[i]? = some v → kindOf x = some .local →
    bindL kindOf (P.zip vs) m x = some v
  | [], _, _, _, _, h, _, _ => by simp at h
  | _ :: _, [], _, _, _, _, h, _ => by simp at h
  | p :: P, w :: vs, 0, m, nd, h1, h2, hk => by
    simp at h1 h2; subst h1; subst h2
    show bindL kindOf ((p, w) :: P.zip vs) m p = _
    unfold bindL
    rw [bindL_out fun v hv => (List.nodup_cons.mp nd).1 (List.of_mem_zip hv).1, if_pos hk]
    simp
  | p :: P, w :: vs, i + 1, m, nd, h1, h2, hk => by
    show bindL kindOf ((p, w) :: P.zip vs) m x = _
    unfold bindL
    exact bindL_get (i := i) (List.nodup_cons.mp nd).2 (by simpa using h1) (by simpa using h2) hk
theorem bindC_get {kindOf : Str → Option NameKind} {x : Str} {v : Value} : ∀ {P : List Str} {vs : List Value} {i : Nat} {m : Str → Option Value}, P.Nodup → P[i]? = some x → vs[i]? = some v → kindOf x ≠ some .local →
    bindC kindOf (P.zip vs) m x = some v
  | [], _, _, _, _, h, _, _ => by simp at h
  | _ :: _, [], _, _, _, _, h, _ => by simp at h
  | p :: P, w :: vs, 0, m, nd, h1, h2, hk => by
    simp at h1 h2; subst h1; subst h2
    show bindC kindOf ((p, w) :: P.zip vs) m p = _
    unfold bindC
    rw [bindC_out fun v hv => (List.nodup_cons.mp nd).1 (List.of_mem_zip hv).1, if_neg hk]
    simp
  | p :: P, w :: vs, i + 1, m, nd, h1, h2, hk => by
    show bindC kindOf ((p, w) :: P.zip vs) m x = _
    unfold bindC
    exact bindC_get (i := i) (List.nodup_cons.mp nd).2 (by simpa using h1) (by simpa using h2) hk
/-- the names' values at the entry -/
def start (N : List Str) (vs : List V) : St := vs.map some ++ List.replicate (N.length - vs.length) none
/-- the context of a def's body, at its entry; an exception leaves the frame, then lies as CX says -/
def cxOf (CX : CXT) (P : Program) (w : World) (K : PySem.W.Frag) (mg : Str → Option Value) (base : Heap) (N : List Str) (qual : Str) (scope : Scope) (f : Addr) (cd : Value) (A : Around) (outer : List Env) (s : Shared) (H : Hp) (E : XK) : Cx where
  prog := P
  w := w
  K := K
  mg := mg
  base := base
  A := A.deeper (envOfC qual scope s.heap.objs.size f cd)
  N := N
  s_0 := s
  H_0 := H
  env := envOfC qual scope s.heap.objs.size f cd
  outer := outer
  stack := envOfC qual scope s.heap.objs.size f cd :: outer
  ex := []
  calm := true
  fn := fun _ => true
  pn := []
  xe := fun e s' => wpAny (model P w) (A.deeper (envOfC qual scope s.heap.objs.size f cd)) (leaving (envOfC qual scope s.heap.objs.size f cd) e) (fun _ s'' => CX outer H s E e s'') (fun e' s'' => CX outer H s E e' s'') s'
theorem cell_has {sc : Scope} {n : Nat} {x : Str} (h : sc.names.lookup x = some .cell) : ∃ c, (cellsFrom n sc.names []).lookup x = some c := by
  have q := PySem.W.cellsFrom_some sc.names n [] (.inl h)
  exact Option.isSome_iff_exists.mp q
theorem inv_start {CX : CXT} {P : Program} {w : World} {K : PySem.W.Frag} {mg : Str → Option Value} {base : Heap} {N ps : List Str} {qual : Str} {scope : Scope} {f : Addr} {cd : Value} {A : Around} {outer : List Env} {s s1 : Shared} {H : Hp} {E : XK} {us : List Value} {vs : List V}
    (S : FnScope N ps scope) (hd : A.handled = none) (e0 : Env0 P w K mg base A outer s H) (hl : vs.length = ps.length) (r : Vals vs us)
    (x : InCallC s s.heap.objs.size (bindL (envOfC qual scope s.heap.objs.size f cd).kindOf (ps.zip us) fun _ => none) (cellsFrom (s.heap.objs.size + 1) scope.names []) (bindC (envOfC qual scope s.heap.objs.size f cd).kindOf (ps.zip us) fun _ => none) s1) :
    Inv (cxOf CX P w K mg base N qual scope f cd A outer s H E) [] (start N vs) H s1 := by
  have hpl : ps.length ≤ N.length := by have := congrArg List.length S.pre; rw [List.length_take] at this; omega
  obtain ⟨h1, tk, rfl, hk⟩ := x.done
  have noA : ∀ b : Addr, b ∉ (cxOf CX P w K mg base N qual scope f cd A outer s H E).ex := fun b z => absurd (show b ∈ ([] : List Addr) from z) (by simp)
  refine ⟨⟨e0.mod, S.kind, rfl, rfl, Nat.le_refl _, fun y z c h1 h2 => ?_, fun y hy => ?_, fun y c _ h => ?_, fun _ => hd, Around.frames_deeper e0.frames, .inr ⟨rfl, rfl⟩, fun b z => absurd z (noA b), e0.bs, e0.bsz, fun b _ _ => noA b, fun b z => absurd z (noA b), e0.funs, e0.frf⟩,
    rfl, e0.bare, Un.kept hk, ⟨_, x.toInCall.ns, fun i y v h1 h2 h3 => ?_⟩, fun y c h => ⟨_, x.cell y c h⟩, e0.hok.fresh (Nat.le_refl _), fun y c h => ?_, fun p hp => absurd (show p ∈ ([] : List (Addr × Obj)) from hp) (by simp), e0.hok.kept hk, ?_⟩
  · exact name_of_addr x.apart (PySem.mem_of_lookup h1) (PySem.mem_of_lookup h2)
  · have hy : scope.names.lookup y = some .cell ∨ scope.names.lookup y = some .free := hy
    rcases hy with hy | hy
    · exact cell_has hy
    · exact absurd rfl (S.nofree _ (PySem.mem_of_lookup hy))
  · exact Nat.le_of_lt (x.above y c (PySem.mem_of_lookup h))
  · have hi : i < vs.length := by
      unfold start at h2
      by_cases hi : i < vs.length
      · exact hi
      · rw [List.getElem?_append_right (by simpa using hi)] at h2
        rw [List.getElem?_replicate] at h2
        split at h2 <;> cases h2
    have ha : vs[i]? = some v := by
      unfold start at h2
      rw [List.getElem?_append_left (by simpa using hi), List.getElem?_map] at h2
      cases e : vs[i]? with
      | none => rw [e] at h2; cases h2
      | some a => rw [e] at h2; cases h2; rfl
    obtain ⟨u, hu, rv⟩ := r.get ha
    have hp : ps[i]? = some y := by
      rw [← S.pre, List.getElem?_take_of_lt (by omega)]; exact h1
    have ndP : ps.Nodup := by rw [← S.pre]; exact S.nd.sublist (List.take_sublist _ _)
    refine ⟨u, rv, ?_⟩
    rcases S.par y (List.mem_of_getElem? hp) with k | k
    · exact .inl ⟨k, bindL_get ndP hp hu k⟩
    · obtain ⟨c, e⟩ := cell_has (n := s.heap.objs.size + 1) k
      refine .inr ⟨.inl k, c, e, ?_⟩
      have q := x.cell y c e
      rw [bindC_get ndP hp hu (by show scope.names.lookup y ≠ _; rw [k]; decide)] at q
      exact q
  · exact e0.hok.fresh (Nat.le_of_lt (x.above y c (PySem.mem_of_lookup h)))
  · unfold start
    show _ = N.length
    rw [List.length_append, List.length_map, List.length_replicate]
    omega
/-- THE RULE: a def (or a method) of the text, by its body. The body's reading t is chosen for each entry; it is run at the parameters' values -/
theorem fn_of {CX : CXT} {P : Program} {w : World} {K : PySem.W.Frag} {mg : Str → Option Value} {base : Heap} {k : Nat} {f : Addr} {name qual : Str} {params : Arguments} {body : List Stmt} {scope : Scope} {dV kV doc pm cdv ct oc : Value} {an od : Option Addr}
    {osl : Array (Option Value)} {N ps : List Str} {sp : Sp} (lk : K.lookup f = some ⟨oc, od, .func (PySem.W.fnOf name qual params body scope dV kV doc pm an cdv ct), osl⟩) (hcd : PySem.W.codeIn K cdv qual = true) (S : FnScope N ps scope)
    (len : ∀ vs H Q E, sp vs H Q E → vs.length = ps.length)
    (hbody : ∀ (A : Around) (outer : List Env) (s : Shared) (H : Hp) (vs : List V) (Q : VK) (E : XK), Room k (A.deeper (envOfC qual scope s.heap.objs.size f cdv)) → sp vs H Q E →
      ∃ t, PSs (cxOf CX P w K mg base N qual scope f cdv A outer s H E) body t ∧ t { nx := fun _ H' => Q .non H', rt := Q } (start N vs) H) :
    FnOk P w K mg base CX (k + 1) f (PySem.W.fnOf name qual params body scope dV kV doc pm an cdv ct) ps sp := by
  refine ⟨len, fun A outer s H args us vs Q E hr e0 hb r hsp => ?_⟩
  have hl := len _ _ _ _ hsp
  have KX : K.In s.heap := e0.mod.kin.keeps fun b o e => (e0.bs b o e).1
  have lim : s.heap.NoLimit := e0.mod.nolimit.keeps fun b o e => (e0.bs b o e).1
  have hkind : ∀ y ∈ ps.zip us, scope.names.lookup y.1 = some .local ∨ (scope.names.lookup y.1 = some .cell ∧ ((cellsFrom (s.heap.objs.size + 1) scope.names []).lookup y.1).isSome = true) := fun ⟨n, v⟩ hy => by
    rcases S.par n (List.of_mem_zip hy).1 with q | q
    · exact .inl q
    · exact .inr ⟨q, PySem.W.cellsFrom_some _ _ _ (.inl q)⟩
  refine codeAny_call_function hr.depth (KX _ _ lk) rfl S.co S.gen rfl (PySem.W.codeRec_of KX hcd) (hb _ _ _ _ ?_)
  refine wpAny_newFunctionEnv_cells S.kind hkind fun env he s1 x => ?_
  subst he
  refine ⟨lim.keeps x.toInCall.keep, codeAny_func ?_⟩
  obtain ⟨t, ht, hq⟩ := hbody A outer s H vs Q E (hr.deeper _) hsp
  have I : Inv (cxOf CX P w K mg base N qual scope f cdv A outer s H E) [] (start N vs) H s1 := inv_start S hr.hd e0 hl r x
  refine wpAny_mono (ht [] s1 (start N vs) H _ I hq) (fun fl s' hs => ?_) fun e s' hs => hs
  have fin : ∀ {σ' : St} {H' : Hp} {v : V} {u : Value}, Inv (cxOf CX P w K mg base N qual scope f cdv A outer s H E) [] σ' H' s' → RelV v u → Q v H' → CE outer P w H s Q u s' :=
    fun {σ' H' v u} J rv q => ⟨v, H', J.os, J.bare, J.base, J.hok, rv, q⟩
  cases fl with
  | ret u =>
    obtain ⟨v, σ', H', J, rv, q⟩ := hs
    exact fin J rv q
  | next =>
    obtain ⟨σ', H', J, q⟩ := hs
    exact fin (v := V.non) (u := Value.none) J rfl q
  | brk =>
    obtain ⟨_, _, _, q⟩ := hs
    exact False.elim q
  | cont =>
    obtain ⟨_, _, _, q⟩ := hs
    exact False.elim q
end L2
namespace L2
open PySem PySem.Spec PyProof.Rows
section
variable {X : Cx} {x : Str} {p pos : Pos} {e : Expr} {es : List Expr} {t : TA} {id T : String} {r : List V → Hp → VK → Prop}
def tCB (r : List V → Hp → VK → Prop) (t : TA) : TE := fun σ H Q => t σ H fun vs H1 => r vs H1 Q
/-- f(e, ..), f a built-in function -/
theorem pe_callB (hc : CallR X (.builtin id) r) (hg : Gl X x) (hm : X.mg x = none) (hv : bootBuiltins x = some (.builtin id)) (ha : PA X (e :: es) t) (hn : x ≠ "__name__" := by decide) (hdb : (x == ("__debug__" : Str)) = false := by decide)
    (he : starEach (e :: es) X.env = (false, eval e X.env) :: starEach es X.env := by rfl) (hpl : (backTo pos (starEach es X.env)).any (·.1) = false := by rfl) : PE X (.Call (.Name x p) (e :: es) [] pos) (tCB r t) := by
  intro pins s σ H Q I h
  refine wpAny_Call_Name_kw (ld_blt I hg hm hv ?_ hn hdb)
  exact PyProof.Rows.callWith_builtin1 (thn (ha pos pins s σ H _ I h) fun us s1 ⟨vs, H1, I1, r1, q1⟩ => hc pins s1 σ H1 vs us Q I1 r1 q1) he hpl
end
end L2
namespace HT
open PySem PyProof.Rows
/-- t < u of tuples of ints -/
def lexLt : List Int → List Int → Bool
  | [], [] => false
  | [], _ :: _ => true
  | _ :: _, [] => false
  | x :: xs, y :: ys => if x = y then lexLt xs ys else decide (x < y)
theorem lexLt_cons (x y : Int) (xs ys : List Int) : lexLt (x :: xs) (y :: ys) = if x = y then lexLt xs ys else decide (x < y) := rfl
theorem lexLt_nil_nil : lexLt [] [] = false := rfl
theorem lexLt_nil_cons (y : Int) (ys : List Int) : lexLt [] (y :: ys) = true := rfl
theorem lexLt_cons_nil (x : Int) (xs : List Int) : lexLt (x :: xs) [] = false := rfl
theorem eqAt_int (A : Around) (s : Shared) (a : Int) (t : Tok) (c : Int) (u : Tok) : ∃ e, SeqAt.EqAt A s (.int a t) (.int c u) e ∧ (e = true ↔ a = c) :=
  ⟨(a == c), SeqAt.EqAt.int_int a t c u, by simp⟩
theorem rcLt_int (A : Around) (s : Shared) (a : Int) (t : Tok) (c : Int) (u : Tok) (prog : Program) (w : World) (E : Value → Shared → Prop) (Q : Value → Shared → Prop) (h : Q (.bool (decide (a < c))) s) :
    wpAny (model prog w) A (richCompare .Lt (.int a t) (.int c u)) Q E s :=
  (PyProof.Rows.lt_int h : wpAny (model prog w) A (compareOp .Lt (.int a t) (.int c u)) Q E s)
section
open PySem.SeqAt
open PySem.AutoSeq1 (wpAny_loadPart')
open PySem.MeetsSeq PySem.MeetsSeq2 PySem.MeetsSeq3
theorem tuple_lt_ints (l b : Addr) (items items2 : Array Value) (n n2 : Nat) (dd dd2 : Option Addr) (sl sl2 : Array (Option Value)) (ns ms : List Int) (hi : IntsAre items.toList ns) (hj : IntsAre items2.toList ms) :
    Meets (Builtin.«tuple.__lt__» ⟨[.ref l, .ref b], []⟩)
      (fun _ R s => s.heap.get? l = some { cls := .type "tuple", dict := dd, data := .seq items n, slots := sl } ∧ s.heap.get? b = some { cls := .type "tuple", dict := dd2, data := .seq items2 n2, slots := sl2 } ∧
        R (.ok (.ret (.bool (lexLt ns ms)))) s) :=
  .of_wp fun prog w A R s h => by
    obtain ⟨hp, g, d, tk, os⟩ := s; obtain ⟨hl, hb, h⟩ := h
    have f2 := AutoSeq1.sub_tuple_tuple
    have z1 : items.size = ns.length := by rw [← hi.length]; simp
    have z2 : items2.size = ms.length := by rw [← hj.length]; simp
    wp_walk using wpAny_loadPart' hl, wpAny_loadPart' hb, wpAny_forIn_list _ (fun rest b s' => b.1 = none ∧ s' = ⟨hp, g, d, tk, os⟩ ∧ ∃ (vs ws : List Value) (ns' ms' : List Int), rest = vs.zip ws ∧
      IntsAre vs ns' ∧ IntsAre ws ms' ∧ ns'.length + items2.size = ms'.length + items.size ∧ R (.ok (.ret (.bool (lexLt ns' ms')))) ⟨hp, g, d, tk, os⟩) _
    case turn =>
      rintro ⟨y, x⟩ rest b s' ⟨hb', rfl, vs, ws, ns', ms', hz, hvi, hwi, hlen, hR⟩
      cases hvi with
      | nil => rw [List.zip_nil_left] at hz; cases hz
      | cons a t hvi' =>
        cases hwi with
        | nil => rw [List.zip_nil_right] at hz; cases hz
        | cons c u hwi' =>
          rw [List.zip_cons_cons] at hz
          injection hz with hyx hrest
          injection hyx with hy hx
          subst hy hx
          rw [lexLt_cons] at hR
          simp only [List.length_cons] at hlen
          obtain ⟨e, he, hiff⟩ := eqAt_int A.in1 ⟨hp, g, d, tk, os⟩ a t c u
          refine wpAny_bind (he prog w _ _ ?_)
          cases e with
          | true =>
            rw [if_pos (hiff.mp rfl)] at hR
            wp_walk
            exact ⟨rfl, rfl, _, _, _, _, hrest, hvi', hwi', by omega, hR⟩
          | false =>
            rw [if_neg (fun q => absurd (hiff.mpr q) Bool.false_ne_true)] at hR
            have hri := rcLt_int A.in1 ⟨hp, g, d, tk, os⟩ a t c u prog w
            wp_walk using hri
            exact ⟨_, rfl, by simpa using hR⟩
    case fin =>
      rintro ⟨b1, b2⟩ s' ⟨hb', rfl, vs, ws, ns', ms', hz, hvi, hwi, hlen, hR⟩
      simp only at hb'
      subst hb'
      have hv : lexLt ns' ms' = decide (items.size < items2.size) := by
        cases hvi with
        | nil =>
          cases hwi with
          | nil =>
            simp only [List.length_nil] at hlen
            rw [lexLt_nil_nil]
            exact (decide_eq_false (by omega)).symm
          | cons c u hw =>
            simp only [List.length_nil, List.length_cons] at hlen
            rw [lexLt_nil_cons]
            exact (decide_eq_true (by omega)).symm
        | cons a t hv =>
          cases hwi with
          | nil =>
            simp only [List.length_nil, List.length_cons] at hlen
            rw [lexLt_cons_nil]
            exact (decide_eq_false (by omega)).symm
          | cons c u hw =>
            rw [List.zip_cons_cons] at hz
            cases hz
      rw [hv] at hR
      wp_walk
      exact ⟨_, rfl, by simpa [Builtin.Tuple.tupleCompareSizes] using hR⟩
    case h =>
      exact ⟨rfl, rfl, items.toList, items2.toList, ns, ms, rfl, hi, hj, by omega, h⟩
end
section
variable {prog : Program} {w : World} {A : Around} {E : Value → Shared → Prop} {s : Shared}
theorem lt_tupInts {l b : Addr} {items items2 : Array Value} {ns ms : List Int} {Q : Value → Shared → Prop} (hl : IsTup s.heap l items) (hb : IsTup s.heap b items2) (hi : IntsAre items.toList ns) (hj : IntsAre items2.toList ms)
    (hu : A.units < cLine) (h : Q (.bool (lexLt ns ms)) s) : wpAny (model prog w) A (compareOp .Lt (.ref l) (.ref b)) Q E s := by
  obtain ⟨⟨cls, dd, data, sl⟩, ho, hc, n, hd⟩ := id hl
  obtain ⟨⟨cls2, dd2, data2, sl2⟩, ho2, hc2, n2, hd2⟩ := id hb
  simp only at hc hd hc2 hd2
  subst hc hd hc2 hd2
  exact richCompare_meets_room (op := .Lt) ⟨_, ho, rfl⟩ ⟨_, ho2, rfl⟩ PySem.F.slot_tuple_lt PySem.F.entry_tuple_lt (PySem.F.args_tuple_lt_2 _ _) (tuple_lt_ints l b items items2 n n2 dd dd2 sl sl2 ns ms hi hj)
    ⟨ho, ho2, show Value.bool (lexLt ns ms) ≠ Value.notImplemented ∧ Q (.bool (lexLt ns ms)) s from ⟨(fun x => nomatch x), h⟩⟩ hu
/-! ### t[a:b], not the whole -/
/-- a slice's bound as a place among n (d where it is left out) -/
def sIx (n d : Nat) : Option Int → Nat
  | none => d
  | some v => if v < 0 then (v + (n : Int)).toNat else min v.toNat n
theorem sIx_none (n d : Nat) : sIx n d none = d := rfl
theorem sIx_nat (n d k : Nat) : sIx n d (some (k : Int)) = min k n := by
  show (if (k : Int) < 0 then ((k : Int) + (n : Int)).toNat else min (k : Int).toNat n) = min k n
  rw [if_neg (by omega), Int.toNat_natCast]
end
end HT
namespace L2
open PySem PySem.Spec PyProof.Rows
/-! ### the parts of a slice -/
abbrev TO := St → Hp → (Option Int → Hp → Prop) → Prop
/-- a slice's part (left out, or an int) -/
def PO (X : Cx) (e : Option Expr) (t : TO) : Prop :=
  ∀ (pins : List (Addr × Obj)) (s : Shared) (σ : St) (H : Hp) (Q : Option Int → Hp → Prop), Inv X pins σ H s → t σ H Q →
    wpAny (model X.prog X.w) X.A (evalPart e X.env) (fun u s' => ∃ o H', Inv X pins σ H' s' ∧ IsPart u o ∧ Q o H') X.xe s
def tNoPart : TO := fun _ H Q => Q none H
def tPart (t : TE) : TO := fun σ H Q => t σ H fun x H1 => ∃ i, x = .int i ∧ Q (some i) H1
theorem intsAre_of {ns : List Int} : ∀ {us : List Value}, Vals (ns.map V.int) us → IntsAre us ns := by
  induction ns with
  | nil => intro us r; rw [List.map_nil] at r; cases r; exact .nil
  | cons n ns ih =>
    intro us r
    rw [List.map_cons] at r
    cases r with
    | cons r1 r2 =>
      obtain ⟨t, e⟩ := r1
      subst e
      exact .cons n t (ih r2)
section
variable {X : Cx} {e : Expr} {te : TE} {lo hi : Option Expr} {tl th : TO} {pos p2 : Pos}
theorem po_none : PO X none tNoPart := by
  intro pins s σ H Q I h
  rw [evalPart_none]
  exact wpAny_pure ⟨none, H, I, .none, h⟩
theorem po_some (h : PE X e te) : PO X (some e) (tPart te) := by
  intro pins s σ H Q I hw
  rw [evalPart_some]
  refine thn (h pins s σ H _ I hw) fun u s1 ⟨x, H1, I1, r1, q1⟩ => ?_
  obtain ⟨i, rfl, q⟩ := q1
  obtain ⟨t, rfl⟩ := r1
  exact ⟨some i, H1, I1, .int i t, q⟩
/-- what a slice of a value is, by values: the slice object stands at sl -/
def SlR (X : Cx) (r : V → Option Int → Option Int → Hp → VK → Prop) : Prop :=
  ∀ (pins : List (Addr × Obj)) (s : Shared) (σ : St) (H : Hp) (x : V) (v vl vu : Value) (lo hi : Option Int) (sl : Addr) (Q : VK), Inv X pins σ H s → RelV x v → s.heap.IsSliceOf sl vl vu .none → IsPart vl lo → IsPart vu hi → r x lo hi H Q →
    ∃ T id, typeLookup (.type T) "__getitem__" = pure (some (.builtin id)) ∧ s.TypeIs v T ∧ wpAny (model X.prog X.w) X.A (getItem v (.ref sl)) (EP X pins σ Q) X.xe s
def tSl (r : V → Option Int → Option Int → Hp → VK → Prop) (te : TE) (tl th : TO) : TE := fun σ H Q => te σ H fun x H1 => tl σ H1 fun l H2 => th σ H2 fun u H3 => r x l u H3 Q
/-- a[lo:hi], any a -/
theorem pe_slice {r : V → Option Int → Option Int → Hp → VK → Prop} (hr : SlR X r) (he : PE X e te) (hl : PO X lo tl) (hu : PO X hi th) : PE X (.Subscript e (.Slice lo hi none p2) pos) (tSl r te tl th) := by
  intro pins s σ H Q I h
  refine Subscript_ (thn (he pins s σ H _ I h) fun v s1 ⟨x, H1, I1, r1, q1⟩ => ?_)
  refine wpAny_Slice (thn (hl pins s1 σ H1 _ I1 q1) fun vl s2 ⟨l, H2, I2, pl, q2⟩ => thn (hu pins s2 σ H2 _ I2 q2) fun vu s3 ⟨u, H3, I3, pu, q3⟩ => ?_)
  rw [evalPart_none]
  refine wpAny_pure ?_
  have I4 : Inv X pins σ H3 { s3 with heap := s3.heap.push { cls := .type "slice", data := .fields #[vl, vu, .none] } } := I3.kept (t' := s3.toks) fun b ob q => Heap.get?_push_of_some _ q
  obtain ⟨T, id, hT, ht, hg⟩ := hr pins { s3 with heap := s3.heap.push { cls := .type "slice", data := .fields #[vl, vu, .none] } } σ H3 x v vl vu l u s3.heap.objs.size Q I4 r1 (Heap.IsSliceOf.new ..) pl pu q3
  show wpAny (model X.prog X.w) X.A (subscriptTail e (.Slice lo hi none p2) v (.ref s3.heap.objs.size)) (EP X pins σ Q) X.xe { s3 with heap := s3.heap.push { cls := .type "slice", data := .fields #[vl, vu, .none] } }
  exact tail_any (ops := [.ref s3.heap.objs.size, v]) ht hT hg (by with_unfolding_all rfl)
/-- the items of xs[lo:hi] -/
def cutV (xs : List V) (lo hi : Option Int) : List V := (xs.drop (HT.sIx xs.length 0 lo)).take (HT.sIx xs.length xs.length hi - HT.sIx xs.length 0 lo)
theorem cutV_length (xs : List V) (lo hi : Option Int) : (cutV xs lo hi).length ≤ xs.length := by
  unfold cutV
  rw [List.length_take, List.length_drop]
  omega
/-! ### t < u, t + u -/
def rLtT (K : PySem.W.Frag) : R2 := fun x y H Q => ∃ a b ns ms, x = .ref a ∧ y = .ref b ∧ SqT K H a (ns.map V.int) ∧ SqT K H b (ms.map V.int) ∧ Q (.bl (HT.lexLt ns ms)) H
theorem op_ltT (hu : X.A.units < cLine) : OpR X (compareOp .Lt) (rLtT X.K) := by
  intro pins s σ H x y v u Q I rx ry h
  obtain ⟨a, b, ns, ms, rfl, rfl, ha, hb, q⟩ := h
  cases rx
  cases ry
  obtain ⟨its, r1, p1, _⟩ := I.tuple ha
  obtain ⟨its2, r2, p2, _⟩ := I.tuple hb
  have i1 : IntsAre its.toArray.toList ns := intsAre_of r1
  have i2 : IntsAre its2.toArray.toList ms := intsAre_of r2
  exact HT.lt_tupInts p1 p2 i1 i2 hu ⟨.bl (HT.lexLt ns ms), H, I, rfl, q⟩
end
end L2
namespace L2
open PySem PySem.Spec PyProof.Rows
/-! ### places -/
/-- the place that an index of any sign means -/
def ixN (n : Nat) (i : Int) : Option Nat := if 0 ≤ i then (if i < n then some i.toNat else none) else if -(n : Int) ≤ i then some (i + n).toNat else none
def atI {α : Type} (xs : List α) (i : Int) : Option α := (ixN xs.length i).bind fun j => xs[j]?
theorem ixN_seq {n : Nat} {i : Int} {j : Nat} (h : ixN n i = some j) : seqIndex? i n = some j ∧ j < n ∧ -(n : Int) ≤ i ∧ i < n := by
  unfold ixN at h
  by_cases h0 : 0 ≤ i
  · rw [if_pos h0] at h
    by_cases h1 : i < n
    · rw [if_pos h1] at h
      have e : i.toNat = j := Option.some.inj h
      exact ⟨by rw [seqIndex_of h0 h1, e], by omega, by omega, h1⟩
    · rw [if_neg h1] at h; cases h
  · rw [if_neg h0] at h
    by_cases h1 : -(n : Int) ≤ i
    · rw [if_pos h1] at h
      have e : (i + n).toNat = j := Option.some.inj h
      exact ⟨by rw [seqIndex_neg (by omega) h1, e], by omega, h1, by omega⟩
    · rw [if_neg h1] at h; cases h
theorem atI_get {α : Type} {xs : List α} {i : Int} {v : α} (h : atI xs i = some v) : ∃ j, seqIndex? i xs.length = some j ∧ xs[j]? = some v ∧ j < xs.length ∧ -(xs.length : Int) ≤ i ∧ i < xs.length := by
  unfold atI at h
  cases e : ixN xs.length i with
  | none => rw [e] at h; cases h
  | some j =>
    rw [e] at h
    obtain ⟨h1, h2, h3, h4⟩ := ixN_seq e
    exact ⟨j, h1, h, h2, h3, h4⟩
theorem atI_nat {α : Type} {xs : List α} {j : Nat} {v : α} (h : xs[j]? = some v) : atI xs (j : Int) = some v := by
  have hj : j < xs.length := (List.getElem?_eq_some_iff.mp h).1
  have e : ixN xs.length (j : Int) = some j := by
    unfold ixN
    rw [if_pos (by omega), if_pos (by omega)]; simp
  unfold atI; rw [e]; exact h
theorem atI_last {α : Type} (xs : List α) (v : α) : atI (xs ++ [v]) (-1) = some v := by
  have hl : (xs ++ [v]).length = xs.length + 1 := by simp
  have e : ixN (xs ++ [v]).length (-1) = some xs.length := by
    unfold ixN
    rw [hl, if_neg (by decide), if_pos (by omega)]
    congr 1
    omega
  unfold atI
  rw [e]
  show (xs ++ [v])[xs.length]? = some v
  simp
/-! ### what may be subscripted -/
/-- what stands as an index of a plain subscript -/
def PlainIx (b : Expr) : Prop := ∀ o i, subscripted b false o i = operate [o, i] (getItem o i)
/-- a subscript by values -/
def IxR (X : Cx) (r : R2) : Prop :=
  ∀ (value slice : Expr) (pins : List (Addr × Obj)) (s : Shared) (σ : St) (H : Hp) (x y : V) (v u : Value) (Q : VK), Inv X pins σ H s → RelV x v → RelV y u → r x y H Q →
    subscripted slice false v u = operate [v, u] (getItem v u) → wpAny (model X.prog X.w) X.A (subscriptTail value slice v u) (EP X pins σ Q) X.xe s
/-- a call of a builtin's method by values: the receiver, the arguments -/
def MtR (X : Cx) (id : String) (r : V → List V → Hp → VK → Prop) : Prop :=
  ∀ (pins : List (Addr × Obj)) (s : Shared) (σ : St) (H : Hp) (x : V) (xs : List V) (v : Value) (us : List Value) (Q : VK), Inv X pins σ H s → RelV x v → Vals xs us → r x xs H Q →
    wpAny (model X.prog X.w) X.A (call (.builtin id) (v :: us)) (EP X pins σ Q) X.xe s
section
variable {X : Cx} {a b : Expr} {ta tb : TE} {pos : Pos}
/-- a[b] -/
theorem pe_ix {r : R2} (hr : IxR X r) (ha : PE X a ta) (hb : PE X b tb) (hs : PlainIx b) : PE X (.Subscript a b pos) (tOp r ta tb) := by
  intro pins s σ H Q I h
  exact Subscript_ (binT ha hb I h fun v u s2 x y H2 I2 rx ry q => hr a b pins s2 σ H2 x y v u Q I2 rx ry q (hs _ _))
def rIxL (K : PySem.W.Frag) : R2 := fun x y H Q => ∃ p xs i v, x = .ref p ∧ y = .int i ∧ SqL K H p xs ∧ atI xs i = some v ∧ Q v H
def rIxT (K : PySem.W.Frag) : R2 := fun x y H Q => ∃ p xs i v, x = .ref p ∧ y = .int i ∧ SqT K H p xs ∧ atI xs i = some v ∧ Q v H
def rIxS : R2 := fun x y H Q => ∃ z i c, x = .str z ∧ y = .int i ∧ z.length ≤ sizeLine ∧ atI z.cps.toList i = some c ∧ Q (.str ⟨#[c]⟩) H
theorem ix_list : IxR X (rIxL X.K) := by
  intro value slice pins s σ H x y v u Q I rx ry h hs
  obtain ⟨p, xs, i, z, rfl, rfl, hq, he, q⟩ := h
  cases rx
  obtain ⟨t, rfl⟩ := ry
  obtain ⟨its, r, pl, hz⟩ := I.list hq
  obtain ⟨j, h1, h2, h3, h4, h5⟩ := atI_get he
  obtain ⟨w, ew, rw'⟩ := r.get h2
  have hl := r.length
  have hn := line63
  have fin : EP X pins σ Q w s := ⟨z, H, I, rw', q⟩
  by_cases h0 : 0 ≤ i
  · have hj : i.toNat = j := by
      rw [seqIndex_of h0 h5] at h1
      exact Option.some.inj h1
    exact item_listR pl.isList h0 (by omega) (by rw [hj]; simpa using ew) fin hs
  · have hj : (i + (its.toArray.size : Int)).toNat = j := by
      rw [seqIndex_neg (by omega) h4] at h1
      rw [List.size_toArray, ← hl]
      exact Option.some.inj h1
    exact subscriptTail_builtinR (x := w) pl.isList.typeIs slot_list_getitem.lookup
      (wpAny_getItem_list_neg (Q := fun r s' => r = w ∧ EP X pins σ Q r s') pl.isList (by omega) (by rw [List.size_toArray] <;> omega) (by omega) (by rw [hj]; simpa using ew) ⟨rfl, fin⟩) hs
theorem ix_tup : IxR X (rIxT X.K) := by
  intro value slice pins s σ H x y v u Q I rx ry h hs
  obtain ⟨p, xs, i, z, rfl, rfl, hq, he, q⟩ := h
  cases rx
  obtain ⟨t, rfl⟩ := ry
  obtain ⟨its, r, pl, hz⟩ := I.tuple hq
  obtain ⟨j, h1, h2, h3, h4, h5⟩ := atI_get he
  obtain ⟨w, ew, rw'⟩ := r.get h2
  have hl := r.length
  have hn := line63
  have fin : EP X pins σ Q w s := ⟨z, H, I, rw', q⟩
  exact subscriptTail_builtinR (x := w) pl.typeIs slot_tuple_getitem.lookup
    (getItem_tuple (j := j) (Q := fun r s' => r = w ∧ EP X pins σ Q r s') pl (by omega) (by omega) (by rw [List.size_toArray, ← hl]; exact h1) (by simpa using ew) ⟨rfl, fin⟩) hs
theorem ix_str : IxR X rIxS := by
  intro value slice pins s σ H x y v u Q I rx ry h hs
  obtain ⟨z, i, c, rfl, rfl, hz, he, q⟩ := h
  obtain ⟨t, rfl⟩ := rx
  obtain ⟨t', rfl⟩ := ry
  obtain ⟨j, h1, h2, h3, h4, h5⟩ := atI_get he
  have hl : z.cps.toList.length = z.length := by simp [Str.length]
  rw [hl] at h1 h4 h5
  have hn := line63
  exact tail_any (typeIs_str s z t) slot_str_getitem.lookup (getItem_str (c := c) (by
    have e1 : decide (i < -(2 ^ 63 : Int)) = false := decide_eq_false (by omega)
    have e2 : decide (i ≥ 2 ^ 63) = false := decide_eq_false (by omega)
    rw [e1, e2, Bool.or_false]) (by rw [h1]; simpa using h2) ⟨.str ⟨#[c]⟩, H, I.tok _, ⟨_, rfl⟩, q⟩) hs
/-! ### xs[i] = v, any sign -/
/-! ### slices -/
theorem slice_bounds (lo hi : Option Int) (n : Nat) : (sliceBounds lo hi none n).1 = ((HT.sIx n 0 lo : Nat) : Int) ∧ (sliceBounds lo hi none n).2.1 = ((HT.sIx n n hi : Nat) : Int) ∧ (sliceBounds lo hi none n).2.2 = 1 := by
  refine ⟨?_, ?_, rfl⟩
  · cases lo with
    | none => simp [sliceBounds, HT.sIx]
    | some i =>
      simp only [sliceBounds, HT.sIx, Option.getD_none, show (1 : Int) > 0 by decide, if_true]
      by_cases h : i < 0
      · simp only [h, if_true] <;> omega
      · simp only [h, if_false] <;> omega
  · cases hi with
    | none => simp [sliceBounds, HT.sIx]
    | some i =>
      simp only [sliceBounds, HT.sIx, Option.getD_none, show (1 : Int) > 0 by decide, if_true]
      by_cases h : i < 0
      · simp only [h, if_true] <;> omega
      · simp only [h, if_false] <;> omega
theorem slicePick_cut (its : List Value) (lo hi : Option Int) : slicePick its.toArray lo hi none = ((its.drop (HT.sIx its.length 0 lo)).take (HT.sIx its.length its.length hi - HT.sIx its.length 0 lo)).toArray := by
  obtain ⟨h1, h2, h3⟩ := slice_bounds lo hi its.toArray.size
  unfold slicePick
  rw [h1, h2, h3]
  simp only [sliceRange_one, pick_run, List.size_toArray] <;> rfl
/-- xs[lo:hi] of a list: a new list -/
def rSlL (K : PySem.W.Frag) : V → Option Int → Option Int → Hp → VK → Prop := fun x lo hi H Q => ∃ a xs, x = .ref a ∧ SqL K H a xs ∧ ∀ p, H p = none → Q (.ref p) (upd H p (.lst (cutV xs lo hi)))
theorem sl_list : SlR X (rSlL X.K) := by
  intro pins s σ H x v vl vu lo hi sl Q I rx hs pl pu h
  obtain ⟨a, xs, rfl, hx, q⟩ := h
  cases rx
  obtain ⟨its, r, ht, hz⟩ := I.list hx
  have hlen := r.length
  refine ⟨"list", _, slot_list_getitem.lookup, ht.isList.typeIs, ?_⟩
  refine wpAny_getItem_list_slice ht.isList hs pl pu .none (by simp) ?_ (by rw [List.size_toArray] <;> omega)
  rw [slicePick_cut, ← hlen]
  refine ⟨.ref s.heap.objs.size, _, I.laid (t' := s.toks) (o := .lst (cutV xs lo hi)) (fun b ob q => Heap.get?_push_of_some _ q) (Nat.le_refl _) ?_, rfl, q _ (I.hok.fresh (Nat.le_refl _))⟩
  exact ⟨Nat.le_trans (cutV_length xs lo hi) hz, _, 0, (r.drop (HT.sIx xs.length 0 lo)).take (HT.sIx xs.length xs.length hi - HT.sIx xs.length 0 lo), Heap.get?_push_size _ rfl⟩
/-! ### in, not in: flat items -/
def flatV : V → Bool
  | .non => true
  | .bl _ => true
  | .int _ => true
  | .str _ => true
  | _ => false
/-- == of flat values -/
def eqV : V → V → Bool
  | .non, .non => true
  | .bl a, .bl b => a == b
  | .bl a, .int b => (if a then 1 else 0) == b
  | .int a, .bl b => a == (if b then 1 else 0)
  | .int a, .int b => a == b
  | .str a, .str b => a == b
  | _, _ => false
theorem eqAt_V {A : Around} {s : Shared} {y x : V} {u v : Value} (ry : RelV y u) (rx : RelV x v) (fy : flatV y = true) (fx : flatV x = true) : SeqAt.EqAt A s u v (eqV y x) := by
  cases y with
  | non =>
    cases ry
    cases x with
    | non => cases rx; exact SeqAt.EqAt.same _
    | bl b => cases rx; exact SeqAt.EqAt.none_bool b
    | int b => obtain ⟨t, rfl⟩ := rx; exact SeqAt.EqAt.none_int b t
    | str b => obtain ⟨t, rfl⟩ := rx; exact SeqAt.EqAt.none_str b t
    | _ => exact absurd (show false = true from fx) Bool.false_ne_true
  | bl a =>
    cases ry
    cases x with
    | non => cases rx; exact SeqAt.EqAt.bool_none a
    | bl b => cases rx; exact SeqAt.EqAt.bool_bool a b
    | int b => obtain ⟨t, rfl⟩ := rx; exact SeqAt.EqAt.bool_int a b t
    | str b => obtain ⟨t, rfl⟩ := rx; exact SeqAt.EqAt.bool_str a b t
    | _ => exact absurd (show false = true from fx) Bool.false_ne_true
  | int a =>
    obtain ⟨t', rfl⟩ := ry
    cases x with
    | non => cases rx; exact SeqAt.EqAt.int_none a t'
    | bl b => cases rx; exact SeqAt.EqAt.int_bool a t' b
    | int b => obtain ⟨t, rfl⟩ := rx; exact SeqAt.EqAt.int_int a t' b t
    | str b => obtain ⟨t, rfl⟩ := rx; exact SeqAt.EqAt.int_str a t' b t
    | _ => exact absurd (show false = true from fx) Bool.false_ne_true
  | str a =>
    obtain ⟨t', rfl⟩ := ry
    cases x with
    | non => cases rx; exact SeqAt.EqAt.str_none a t'
    | bl b => cases rx; exact SeqAt.EqAt.str_bool a t' b
    | int b => obtain ⟨t, rfl⟩ := rx; exact SeqAt.EqAt.str_int a t' b t
    | str b => obtain ⟨t, rfl⟩ := rx; exact SeqAt.EqAt.str_str a t' b t
    | _ => exact absurd (show false = true from fx) Bool.false_ne_true
  | _ => exact absurd (show false = true from fy) Bool.false_ne_true
/-- the items' answers, read off the values (a value's own answer does not lean on its token) -/
def eqU (x : V) (u : Value) : Bool := match u with
  | .none => eqV .non x
  | .bool b => eqV (.bl b) x
  | .int i _ => eqV (.int i) x
  | .str z _ => eqV (.str z) x
  | _ => false
theorem eqU_of {x y : V} {u : Value} (r : RelV y u) (f : flatV y = true) : eqU x u = eqV y x := by
  cases y with
  | non => cases r; rfl
  | bl b => cases r; rfl
  | int i => obtain ⟨t, rfl⟩ := r; rfl
  | str z => obtain ⟨t, rfl⟩ := r; rfl
  | _ => exact absurd (show false = true from f) Bool.false_ne_true
theorem any_eqU {x : V} : ∀ {xs : List V} {us : List Value}, Vals xs us → xs.all flatV = true → us.any (eqU x) = xs.any fun y => eqV y x
  | _, _, .nil, _ => rfl
  | y :: xs, u :: us, .cons r t, f => by
    rw [List.all_cons, Bool.and_eq_true] at f
    rw [List.any_cons, List.any_cons, eqU_of r f.1, any_eqU t f.2]
theorem mem_eqAt {A : Around} {s : Shared} {x : V} {v : Value} (rx : RelV x v) (fx : flatV x = true) : ∀ {xs : List V} {us : List Value}, Vals xs us → xs.all flatV = true → ∀ u ∈ us, SeqAt.EqAt A s u v (eqU x u)
  | _, _, .nil, _ => fun u hu => by cases hu
  | y :: xs, u :: us, .cons r t, f => fun u' hu => by
    rw [List.all_cons, Bool.and_eq_true] at f
    rcases List.mem_cons.mp hu with rfl | hu
    · rw [eqU_of r f.1]; exact eqAt_V r rx f.1 fx
    · exact mem_eqAt rx fx t f.2 u' hu
def inV (x : V) (xs : List V) : Bool := xs.any fun y => eqV y x
/-- x in a list or tuple of flat items -/
def rIn (K : PySem.W.Frag) (neg : Bool) : R2 := fun x y H Q => ∃ p xs, y = .ref p ∧ (SqL K H p xs ∨ SqT K H p xs) ∧ flatV x = true ∧ xs.all flatV = true ∧ Q (.bl (if neg then !inV x xs else inV x xs)) H
theorem op_in_seq : OpR X (compareOp .In) (rIn X.K false) := by
  intro pins s σ H x y v u Q I rx ry h
  obtain ⟨p, xs, rfl, hq, fx, fs, q⟩ := h
  cases ry
  rcases hq with hq | hq
  · obtain ⟨its, r, pl, hz⟩ := I.list hq
    refine SeqAt.in_listAt (eqU x) pl.isList (fun w hw => mem_eqAt rx fx r fs w (by simpa using hw)) ⟨.bl _, H, I, rfl, ?_⟩
    rw [show its.toArray.any (eqU x) = its.any (eqU x) by simp, any_eqU r fs]
    exact q
  · obtain ⟨its, r, pl, hz⟩ := I.tuple hq
    refine SeqAt.in_tupleAt (eqU x) pl (fun w hw => mem_eqAt rx fx r fs w (by simpa using hw)) ⟨.bl _, H, I, rfl, ?_⟩
    rw [show its.toArray.any (eqU x) = its.any (eqU x) by simp, any_eqU r fs]
    exact q
/-! ### len, list(x), tuple(x) of any list or tuple that is read -/
theorem call_len_seq : CallR X (.builtin "len") (fun xs H Q => ∃ p ys, xs = [.ref p] ∧ (SqL X.K H p ys ∨ SqT X.K H p ys) ∧ Q (.int ys.length) H) := by
  intro pins s σ H xs us Q I r h
  obtain ⟨p, ys, rfl, hq, q⟩ := h
  obtain ⟨u, rfl, rx⟩ := vals1 r
  cases rx
  have hn := line63
  rcases hq with hq | hq
  · obtain ⟨its, r', pl, hz⟩ := I.list hq
    have hlen := r'.length
    exact Calls.call_len_list pl.isList (by simp only [List.size_toArray] <;> omega) ⟨.int ys.length, H, I.tok _, ⟨s.toks + 1, by rw [List.size_toArray, hlen]⟩, q⟩
  · obtain ⟨its, r', pl, hz⟩ := I.tuple hq
    have hlen := r'.length
    exact len_tuple pl (by simp only [List.size_toArray] <;> omega) ⟨.int ys.length, H, I.tok _, ⟨s.toks + 1, by rw [List.size_toArray, hlen]⟩, q⟩
/-! ### the call of a builtin's method: o.m(..) -/
/-- the value is of that builtin type -/
def tyV (K : PySem.W.Frag) (T : String) (x : V) (H : Hp) : Prop := match x with
  | .str _ => T = "str"
  | .int _ => T = "int"
  | .ref p => (T = "list" ∧ ∃ xs, SqL K H p xs) ∨ (T = "tuple" ∧ ∃ o, K.lookup p = some o ∧ o.cls = .type "tuple" ∧ o.dict = none) ∨
      (T = "dict" ∧ ((∃ kvs, H p = some (.dK kvs)) ∨ ∃ kvs, H p = some (.dT kvs))) ∨ (T = "set" ∧ ∃ S n, H p = some (.set S n))
  | _ => False
theorem tyV_is {pins : List (Addr × Obj)} {σ : St} {H : Hp} {s : Shared} {T : String} {x : V} {v : Value} (I : Inv X pins σ H s) (r : RelV x v) (ty : tyV X.K T x H) :
    s.TypeIs v T ∧ ∀ a, v = .ref a → ∃ ob, s.heap.get? a = some ob ∧ ob.dict = none := by
  cases x with
  | str z =>
    obtain ⟨t, rfl⟩ := r
    cases (show T = "str" from ty)
    exact ⟨typeIs_str s z t, fun _ e => nomatch e⟩
  | int i =>
    obtain ⟨t, rfl⟩ := r
    cases (show T = "int" from ty)
    exact ⟨typeIs_int s i t, fun _ e => nomatch e⟩
  | ref p =>
    cases r
    rcases ty with ⟨rfl, xs, hq⟩ | ⟨rfl, o, hk, hc, hd⟩ | ⟨rfl, hk⟩ | ⟨rfl, S, n, hk⟩
    · obtain ⟨its, _, pl, _⟩ := I.list hq
      refine ⟨pl.isList.typeIs, fun a e => ?_⟩
      cases e
      obtain ⟨o, n, e, c, hd, _⟩ := pl
      exact ⟨o, e, hd⟩
    · refine ⟨⟨o, I.kIn p o hk, hc⟩, fun a e => ?_⟩
      cases e
      exact ⟨o, I.kIn _ o hk, hd⟩
    · have z : ∃ o, s.heap.get? p = some o ∧ o.ExactDict := by
        rcases hk with ⟨kvs, hk⟩ | ⟨kvs, hk⟩
        · obtain ⟨_, _, _, _, o, _, _, e, ex, _⟩ := I.hok p _ hk
          exact ⟨o, e, ex⟩
        · obtain ⟨_, _, _, _, o, _, _, e, ex, _⟩ := I.hok p _ hk
          exact ⟨o, e, ex⟩
      obtain ⟨o, e, ex⟩ := z
      refine ⟨⟨o, e, ex.1⟩, fun a e2 => ?_⟩
      cases e2
      exact ⟨o, e, ex.2.1⟩
    · obtain ⟨o, _, _, _, e, ex, _⟩ := I.hok p _ hk
      refine ⟨⟨o, e, ex.1⟩, fun a e2 => ?_⟩
      cases e2
      exact ⟨o, e, ex.2.1⟩
  | _ => exact False.elim ty
def tBM0 (K : PySem.W.Frag) (T : String) (r : V → List V → Hp → VK → Prop) (to : TE) : TE := fun σ H Q => to σ H fun x H1 => tyV K T x H1 ∧ r x [] H1 Q
def tBM (K : PySem.W.Frag) (T : String) (r : V → List V → Hp → VK → Prop) (to : TE) (t : TA) : TE := fun σ H Q => to σ H fun x H1 => tyV K T x H1 ∧ t σ H1 fun xs H2 => r x xs H2 Q
variable {o e : Expr} {es : List Expr} {to : TE} {t : TA} {name : Str} {apos cpos : Pos} {T id : String} {r : V → List V → Hp → VK → Prop}
theorem pe_bm0 (pa : PlainAttrs T) (slot : Slot T name id) (hty : typeOf (.builtin id) = pure (.type "method_descriptor")) (hm : MtR X id r) (ho : PE X o to)
    (hbase : attributeBase o name X.env (eval o X.env) = eval o X.env := by rfl) (hline : (apos.endLine == cpos.line) = true := by rfl) : PE X (.Call (.Attribute o name apos) [] [] cpos) (tBM0 X.K T r to) := by
  intro pins s σ H Q I h
  refine wpAny_Call_method0_late hbase hline (thn (ho pins s σ H _ I h) fun v s1 ⟨x, H1, I1, r1, ty, q1⟩ => ?_)
  obtain ⟨h1, h2⟩ := tyV_is I1 r1 ty
  exact ⟨T, id, pa, slot, hty, h1, h2, Calls.callWith_builtin rfl (PySem.evalArgs_none (hm pins s1 σ H1 x [] v [] Q I1 r1 .nil q1))⟩
theorem pe_bm (pa : PlainAttrs T) (slot : Slot T name id) (hty : typeOf (.builtin id) = pure (.type "method_descriptor")) (hm : MtR X id r) (ho : PE X o to) (ha : PA X (e :: es) t)
    (hbase : attributeBase o name X.env (eval o X.env) = eval o X.env := by rfl)
    (hfew : ((backTo cpos (starEach (e :: es) X.env)).all (fun x => !x.1) && (backToKw cpos (keywordEach [] X.env)).all (fun x => x.1.isSome)
      && decide ((e :: es).length + ([] : List Keyword).length + (if ([] : List Keyword).isEmpty then 0 else 1) < 30)) = true := by rfl)
    (hline : (apos.endLine == cpos.line) = true := by rfl) (hs : starEach (e :: es) X.env = (false, eval e X.env) :: starEach es X.env := by rfl) (hplain : (backTo cpos (starEach es X.env)).any (·.1) = false := by rfl) :
    PE X (.Call (.Attribute o name apos) (e :: es) [] cpos) (tBM X.K T r to t) := by
  intro pins s σ H Q I h
  refine wpAny_Call_method_late hbase hfew hline rfl (thn (ho pins s σ H _ I h) fun v s1 ⟨x, H1, I1, r1, ty, q1⟩ => ?_)
  obtain ⟨h1, h2⟩ := tyV_is I1 r1 ty
  refine ⟨T, id, pa, slot, hty, h1, h2, ?_⟩
  have hA := ha cpos pins s1 σ H1 _ I1 q1
  rw [hs] at hA ⊢
  refine Calls.callWith_builtin (by show (false || (backTo cpos (starEach es X.env)).any (·.1)) = false; rw [hplain] <;> rfl) (Calls.evalArgs_plain ?_)
  exact thn hA fun us s2 ⟨vs, H2, I2, r2, q2⟩ => hm pins s2 σ H2 x vs v us Q I2 r1 r2 q2
/- xs.append(e), list.index on a module's tuple .. are MtR facts of 06m -/
end
end L2
namespace L2
open PySem PySem.Spec PyProof.Rows
def MtM (X : Cx) (id : String) (r : V → List V → Hp → VK → Prop) : Prop :=
  ∀ (pins : List (Addr × Obj)) (s : Shared) (σ : St) (H : Hp) (x : V) (xs : List V) (v : Value) (us : List Value) (Q : VK), Inv X pins σ H s → RelV x v → Vals xs us → r x xs H Q →
    wpAny (model X.prog X.w) X.A (call (.builtin id) (v :: us)) (EP X pins σ Q) X.xe s
/-! ### lists of values -/
theorem Vals.one : ∀ {x : V} {us : List Value}, Vals [x] us → ∃ u, us = [u] ∧ RelV x u
  | _, _, .cons r .nil => ⟨_, rfl, r⟩
theorem Vals.zero : ∀ {us : List Value}, Vals [] us → us = []
  | _, .nil => rfl
theorem Vals.dropLast {xs : List V} {us : List Value} (h : Vals xs us) : Vals xs.dropLast us.dropLast := by
  induction h with
  | nil => exact .nil
  | cons r t ih =>
    cases t with
    | nil => exact .nil
    | cons q t' => exact .cons r ih
theorem erase_last {α : Type} (l : List α) : l.eraseIdx (l.length - 1) = l.dropLast := by
  induction l with
  | nil => rfl
  | cons a r ih =>
    cases r with
    | nil => rfl
    | cons b r =>
      have e : (a :: b :: r).length - 1 = ((b :: r).length - 1) + 1 := by
        have h1 : (a :: b :: r).length = r.length + 2 := rfl
        have h2 : (b :: r).length = r.length + 1 := rfl
        omega
      rw [e, List.eraseIdx_cons_succ, ih]
      all_goals rfl
section
variable {X : Cx} {pins : List (Addr × Obj)} {σ : St} {H : Hp} {s : Shared} {l b : Addr} {xs ys zs : List V}
/-! ### the two steps: a tracked list is rewritten, a new list is laid -/
theorem Inv.lset {its its' : List Value} {n : Nat} {f : Array Value → Array Value} {t' : Nat} (I : Inv X pins σ H s) (hH : H l = some (.lst xs))
    (e : s.heap.get? l = some { cls := .type "list", data := .seq its.toArray n }) (hf : f its.toArray = its'.toArray) (hv : Vals ys its') (hz : ys.length ≤ sizeLine) :
    Inv X pins σ (upd H l (.lst ys)) { s with heap := s.heap.update l (Obj.mapSeq f), toks := t' } := by
  have q := PySem.IsL.update e f
  rw [hf] at q
  refine I.write (x := l) (e := l) (by rw [hH]; exact trivial) (.inl rfl) (fun b' u hb hu => (Heap.get?_update_other s.heap (Obj.mapSeq f) (Ne.symm hb)).trans hu) ⟨_, q⟩ ?_
  exact ⟨hz, its', _, hv, q⟩
theorem Inv.lnew {its : List Value} {t' : Nat} (I : Inv X pins σ H s) (hv : Vals ys its) (hz : ys.length ≤ sizeLine) :
    Inv X pins σ (upd H s.heap.objs.size (.lst ys)) { s with heap := s.heap.push { cls := .type "list", data := .seq its.toArray }, toks := t' } :=
  I.laid (fun _ _ q => Heap.get?_push_of_some _ q) (Nat.le_refl _) ⟨hz, its, 0, hv, Heap.get?_push_size _ rfl⟩
theorem Inv.fresh (I : Inv X pins σ H s) : H s.heap.objs.size = none := I.hok.fresh (Nat.le_refl _)
theorem Inv.lstM (I : Inv X pins σ H s) (hH : H l = some (.lst xs)) : xs.length ≤ sizeLine ∧ ∃ (its : List Value) (n : Nat), Vals xs its ∧ xs.length = its.length ∧ s.heap.get? l = some { cls := .type "list", data := .seq its.toArray n } := by
  obtain ⟨z, its, n, r, e⟩ := I.hok l _ hH
  exact ⟨z, its, n, r, r.length, e⟩
theorem notLongL {n : Nat} (h : n ≤ sizeLine) : Builtin.List.listTooLong n = false := by
  unfold Builtin.List.listTooLong
  exact decide_eq_false (by omega)
end
section
variable {X : Cx}
/-! ### methods -/
def rAppend : V → List V → Hp → VK → Prop := fun x vs H Q => ∃ l xs y, x = .ref l ∧ vs = [y] ∧ H l = some (.lst xs) ∧ xs.length < sizeLine ∧ Q .non (upd H l (.lst (xs ++ [y])))
theorem mt_append : MtM X "list.append" rAppend := by
  intro pins s σ H x vs v us Q I rx rv h
  obtain ⟨l, xs, y, rfl, rfl, hH, hz, q⟩ := h
  cases rx
  obtain ⟨u, rfl, ru⟩ := rv.one
  obtain ⟨z, its, n, r, hl, e⟩ := I.lstM hH
  refine call_meets F.slot_list_append ⟨_, e, rfl⟩ F.entry_list_append (F.args_list_append_2 _ _) (PySem.list_append l its.toArray n u (by rw [List.size_toArray]; omega)) ⟨e, ?_⟩
  refine ⟨.non, _, I.lset (its' := its ++ [u]) hH e (by simp) (r.append (.cons ru .nil)) ?_, rfl, q⟩
  rw [List.length_append, List.length_singleton]
  omega
def rExtend : V → List V → Hp → VK → Prop := fun x vs H Q => ∃ l b xs zs, x = .ref l ∧ vs = [.ref b] ∧ H l = some (.lst xs) ∧ H b = some (.lst zs) ∧ xs.length + zs.length ≤ sizeLine ∧ Q .non (upd H l (.lst (xs ++ zs)))
theorem mt_extend : MtM X "list.extend" rExtend := by
  intro pins s σ H x vs v us Q I rx rv h
  obtain ⟨l, b, xs, zs, rfl, rfl, hH, hB, hz, q⟩ := h
  cases rx
  obtain ⟨u, rfl, ru⟩ := rv.one
  cases ru
  obtain ⟨z, its, n, r, hl, e⟩ := I.lstM hH
  obtain ⟨z2, its2, n2, r2, hl2, e2⟩ := I.lstM hB
  have hsz : its.toArray.size + its2.toArray.size ≤ sizeLine := by rw [List.size_toArray, List.size_toArray]; omega
  have hlong : ¬ (!its.toArray.isEmpty && Builtin.List.listTooLong (its.toArray.size + its2.toArray.size)) = true := by
    rw [notLongL hsz, Bool.and_false]
    exact Bool.false_ne_true
  refine call_meets F.slot_list_extend ⟨_, e, rfl⟩ F.entry_list_extend (F.args_list_extend_2 _ _)
    (AutoSeq1.list_extend_list_list_0 l its.toArray n b its2.toArray n2 hlong (by rw [List.size_toArray]; omega) (by omega)) ⟨e, e2, ?_⟩
  refine ⟨.non, _, I.lset (its' := its ++ its2) hH e (by simp) (r.append r2) ?_, rfl, q⟩
  rw [List.length_append]
  omega
def rPop : V → List V → Hp → VK → Prop := fun x vs H Q => ∃ l xs y, x = .ref l ∧ vs = [] ∧ H l = some (.lst xs) ∧ xs[xs.length - 1]? = some y ∧ Q y (upd H l (.lst xs.dropLast))
theorem mt_pop : MtM X "list.pop" rPop := by
  intro pins s σ H x vs v us Q I rx rv h
  obtain ⟨l, xs, y, rfl, rfl, hH, hy, q⟩ := h
  cases rx
  have hus := rv.zero
  subst hus
  obtain ⟨z, its, n, r, hl, e⟩ := I.lstM hH
  obtain ⟨u, hu, ru⟩ := r.get hy
  have hy' : its.toArray[its.toArray.size - 1]? = some u := by
    show its.toArray[its.length - 1]? = some u
    rw [← Array.getElem?_toList, ← hl]
    exact hu
  refine call_meets F.slot_list_pop ⟨_, e, rfl⟩ F.entry_list_pop (F.args_list_pop_1 _) (MeetsSeq.list_pop_last l its.toArray n u hy' (by rw [List.size_toArray]; omega)) ⟨e, ?_⟩
  refine ⟨y, _, I.lset (its' := its.dropLast) hH e ?_ r.dropLast ?_, ru, q⟩
  · show its.toArray.eraseIdxIfInBounds (its.toArray.size - 1) = its.dropLast.toArray
    rw [List.size_toArray, List.eraseIdxIfInBounds_toArray, erase_last]
  · rw [List.length_dropLast]
    omega
/-! ### list + list, list += list, list * int -/
def rCat : R2 := fun x y H Q => ∃ l b xs zs, x = .ref l ∧ y = .ref b ∧ H l = some (.lst xs) ∧ H b = some (.lst zs) ∧ xs.length + zs.length ≤ sizeLine ∧ ∀ p, H p = none → Q (.ref p) (upd H p (.lst (xs ++ zs)))
theorem op_cat : OpR X (binaryOp .Add) rCat := by
  intro pins s σ H x y v u Q I rx ry h
  obtain ⟨l, b, xs, zs, rfl, rfl, hH, hB, hz, q⟩ := h
  cases rx
  cases ry
  obtain ⟨z, its, n, r, hl, e⟩ := I.lstM hH
  obtain ⟨z2, its2, n2, r2, hl2, e2⟩ := I.lstM hB
  refine PySem.P.add_list e e2 ?_ (by rw [List.size_toArray, List.size_toArray]; omega)
  have ea : its.toArray ++ its2.toArray = (its ++ its2).toArray := by simp
  rw [ea]
  exact ⟨.ref _, _, I.lnew (t' := s.toks) (r.append r2) (by rw [List.length_append]; omega), rfl, q _ I.fresh⟩
/-! ### del xs[i] -/
end
/-! ### xs[a:b] = ys -/
section
variable {prog : Program} {w : World} {A : Around} {E : Value → Shared → Prop} {s : Shared}
end
section
variable {X : Cx}
end
end L2
namespace L2
open PySem PySem.Spec PyProof.Rows
theorem Vals.bls : ∀ {bs : List Bool} {us : List Value}, Vals (bs.map V.bl) us → us = bs.map Value.bool
  | [], us, h => by
    rw [List.map_nil] at h
    cases h
    rfl
  | b :: bs, us, h => by
    rw [List.map_cons] at h
    cases h with
    | cons r t =>
      cases r
      rw [Vals.bls t, List.map_cons]
theorem Vals.ref1 {a : Addr} {us : List Value} (r : Vals [V.ref a] us) : us = [Value.ref a] := by
  cases r with
  | cons r t =>
    cases t
    cases r
    rfl
/-! ### the library's walks over a list of ints, kept objects alone -/
section
variable {prog : Program} {w : World} {A : Around} {E : Value → Shared → Prop} {s : Shared} {l : Addr} {its : List Value} {ns : List Int} {Q : Value → Shared → Prop}
end
/-! ### the calls, by values (CallR of 03t; MtR of 06l) -/
section
variable {X : Cx}
/-! sorted, sort (fewer than 64 items: the library's own bound) -/
end
/-! ### list.index, flat items -/
section
variable {X : Cx}
def rIndex (K : PySem.W.Frag) : V → List V → Hp → VK → Prop := fun x xs H Q => ∃ (a : Addr) (ys : List V) (y : V) (j : Nat) (z : V), x = V.ref a ∧ xs = [y] ∧ SqL K H a ys ∧ flatV y = true ∧ ys.all flatV = true ∧ ys[j]? = some z ∧ eqV z y = true ∧
  (∀ (m : Nat) (z' : V), m < j → ys[m]? = some z' → eqV z' y = false) ∧ Q (.int (j : Nat)) H
theorem flat_at {ys : List V} (f : ys.all flatV = true) {j : Nat} {z : V} (h : ys[j]? = some z) : flatV z = true := List.all_eq_true.mp f z (List.mem_of_getElem? h)
theorem mt_index : MtR X "list.index" (rIndex X.K) := by
  intro pins s σ H x xs v us Q I rx rxs h
  obtain ⟨a, ys, y, j, z, rfl, rfl, hs, fy, fys, hz, hzj, hno, q⟩ := h
  cases rx
  cases rxs with
  | cons ry rt =>
    rename_i uy ut
    cases rt
    obtain ⟨its, rv, ⟨⟨cls, dd, data, sl⟩, n, ho, hc, hdn, hd⟩, hlen⟩ := I.list hs
    simp only at hc hd
    subst hc hd
    obtain ⟨u, hu, ru⟩ := rv.get hz
    obtain ⟨hjl, hje⟩ := List.getElem?_eq_some_iff.mp hu
    have hvl := rv.length
    have hj : j < its.toArray.size := by simpa using hjl
    have hsl := sizeLine_eq
    refine call_meets PySem.F.slot_list_index ⟨_, ho, rfl⟩ PySem.F.entry_list_index (PySem.F.args_list_index_2 _ _)
      (SeqAt.list_indexAt a its.toArray n dd sl uy (eqU y) j hj (by omega) ?_ ?_) ⟨ho, fun u' hu' => mem_eqAt ry fy rv fys u' (by simpa using hu'), ?_⟩
    · have e1 : its.toArray[j] = u := by simpa using hje
      rw [e1, eqU_of ru (flat_at fys hz)]
      exact hzj
    · intro m hm hmj
      have hml : m < its.length := by simpa using hm
      have hmy : m < ys.length := by omega
      have hy' : ys[m]? = some ys[m] := List.getElem?_eq_getElem hmy
      obtain ⟨u2, hu2, ru2⟩ := rv.get hy'
      obtain ⟨_, hme⟩ := List.getElem?_eq_some_iff.mp hu2
      have e1 : its.toArray[m] = u2 := by simpa using hme
      rw [e1, eqU_of ru2 (flat_at fys hy')]
      exact hno m _ hmj hy'
    · exact ⟨.int (j : Nat), H, I.tok _, ⟨_, rfl⟩, q⟩
end
/-! ### type(x) of an own instance; is, is not of a module's class -/
section
variable {X : Cx}
end
/-! ### any(xs), all(xs) of a list of bools -/
theorem iter_any {prog : Program} {w : World} {A : Around} {E : Value → Shared → Prop} {s : Shared} {l : Addr} {items : Array Value} {Q : Value → Shared → Prop} (hl : s.heap.IsList l items)
    (h : ∀ s₂ : Shared, s₂ = { s with heap := s.heap.push { cls := .type "list_iterator", data := .fields #[.ref l, .int 0 0] } } →
      (s₂.heap.IsListIter s.heap.objs.size l 0 ∧ s₂.heap.IsList l items) → l ≠ s.heap.objs.size → Q (.ref s.heap.objs.size) s₂) : wpAny (model prog w) A (pyIter (.ref l)) Q E s := by
  have hlt : l < s.heap.objs.size := by obtain ⟨_, e, _⟩ := hl; exact Heap.lt_size e
  exact wpAny_pyIter_list hl (h _ rfl ⟨⟨_, Heap.get?_push_size _ rfl, rfl, rfl⟩, hl.push _⟩ (Nat.ne_of_lt hlt))
theorem truth_bools {prog : Program} {w : World} {A : Around} {bs : List Bool} {its : List Value} (e : its = bs.map Value.bool) :
    TruthOf prog w A (fun i v => its.toArray[i]? = some v) (fun i => bs.getD i false) := fun i v s Q E hv hq => by
  have hv' : its[i]? = some v := by simpa using hv
  rw [e, List.getElem?_map] at hv'
  obtain ⟨b, hb, rfl⟩ := Option.map_eq_some_iff.mp hv'
  have hg : bs.getD i false = b := by rw [List.getD_eq_getElem?_getD, hb] <;> rfl
  have hq' : Q (bs.getD i false) s := hq
  rw [hg] at hq'
  exact wpAny_truthy_bool hq'
theorem any_range : ∀ bs : List Bool, (List.range bs.length).any (fun i => bs.getD i false) = bs.any id
  | [] => rfl
  | b :: bs => by
    rw [List.length_cons, List.range_succ_eq_map, List.any_cons, List.any_map, List.any_cons, ← any_range bs]
    all_goals rfl
theorem all_range : ∀ bs : List Bool, (List.range bs.length).all (fun i => bs.getD i false) = bs.all id
  | [] => rfl
  | b :: bs => by
    rw [List.length_cons, List.range_succ_eq_map, List.all_cons, List.all_map, List.all_cons, ← all_range bs]
    all_goals rfl
section
variable {X : Cx}
def rAny (K : PySem.W.Frag) : List V → Hp → VK → Prop := fun vs H Q => ∃ (a : Addr) (bs : List Bool), vs = [V.ref a] ∧ SqL K H a (bs.map V.bl) ∧ Q (.bl (bs.any id)) H
def rAll (K : PySem.W.Frag) : List V → Hp → VK → Prop := fun vs H Q => ∃ (a : Addr) (bs : List Bool), vs = [V.ref a] ∧ SqL K H a (bs.map V.bl) ∧ Q (.bl (bs.all id)) H
theorem cr_any (hc : X.calm = true) : CallR X (.builtin "any") (rAny X.K) := by
  intro pins s σ H vs us Q I r h
  obtain ⟨a, bs, rfl, hs, q⟩ := h
  obtain ⟨its, rv, hl, _⟩ := I.list hs
  rw [Vals.ref1 r]
  have hb := rv.bls
  refine call_any_walk (iter_any hl.isList fun s₂ e2 st hne => ?_)
  subst e2
  refine ⟨_, _, _, _, _, _, _, rfl, Walks.list (A := X.A.in1) (I.ok.hd hc) _ a hne its.toArray, st, truth_bools hb, fun h' tk hk => ?_⟩
  refine ⟨.bl _, H, I.kept fun b o eo => hk b o (fun hmem => ?_) (Heap.get?_push_of_some _ eo), ?_, q⟩
  · rcases List.mem_cons.mp hmem with e1 | hmem
    · exact absurd (e1 ▸ Heap.lt_size eo) (Nat.lt_irrefl _)
    · cases hmem
  · show Value.bool _ = Value.bool _
    rw [← any_range, hb, List.size_toArray, List.length_map]
theorem cr_all (hc : X.calm = true) : CallR X (.builtin "all") (rAll X.K) := by
  intro pins s σ H vs us Q I r h
  obtain ⟨a, bs, rfl, hs, q⟩ := h
  obtain ⟨its, rv, hl, _⟩ := I.list hs
  rw [Vals.ref1 r]
  have hb := rv.bls
  refine call_all_walk (iter_any hl.isList fun s₂ e2 st hne => ?_)
  subst e2
  refine ⟨_, _, _, _, _, _, _, rfl, Walks.list (A := X.A.in1) (I.ok.hd hc) _ a hne its.toArray, st, truth_bools hb, fun h' tk hk => ?_⟩
  refine ⟨.bl _, H, I.kept fun b o eo => hk b o (fun hmem => ?_) (Heap.get?_push_of_some _ eo), ?_, q⟩
  · rcases List.mem_cons.mp hmem with e1 | hmem
    · exact absurd (e1 ▸ Heap.lt_size eo) (Nat.lt_irrefl _)
    · cases hmem
  · show Value.bool _ = Value.bool _
    rw [← all_range, hb, List.size_toArray, List.length_map]
end
/-! ### == and != of data at any depth: none, bools, ints, texts, lists, tuples -/
mutual
inductive Dp (K : PySem.W.Frag) (H : Hp) : V → PyData → Prop
  | non : Dp K H .non .none
  | bl (b : Bool) : Dp K H (.bl b) (.bool b)
  | int (i : Int) : Dp K H (.int i) (.int i)
  | str (x : Str) : Dp K H (.str x) (.str x)
  | lst {a : Addr} {xs : List V} {ds : List PyData} : SqL K H a xs → DpAll K H xs ds → Dp K H (.ref a) (.list ds)
  | tup {a : Addr} {xs : List V} {ds : List PyData} : SqT K H a xs → DpAll K H xs ds → Dp K H (.ref a) (.tuple ds)
inductive DpAll (K : PySem.W.Frag) (H : Hp) : List V → List PyData → Prop
  | nil : DpAll K H [] []
  | cons {v : V} {vs : List V} {d : PyData} {ds : List PyData} : Dp K H v d → DpAll K H vs ds → DpAll K H (v :: vs) (d :: ds)
end
section
variable {X : Cx} {pins : List (Addr × Obj)} {σ : St} {H : Hp} {s : Shared}
mutual
theorem Dp.reads (I : Inv X pins σ H s) : ∀ (d : PyData) (v : V) (u : Value), Dp X.K H v d → RelV v u → ∃ as, Reads s.heap u d as
  | .none, _, _, h, r => by
    cases h
    cases r
    exact ⟨_, Reads.none⟩
  | .bool b, _, _, h, r => by
    cases h
    cases r
    exact ⟨_, Reads.bool b⟩
  | .int i, _, _, h, r => by
    cases h
    obtain ⟨t, rfl⟩ := r
    exact ⟨_, Reads.int i t⟩
  | .str x, _, _, h, r => by
    cases h
    obtain ⟨t, rfl⟩ := r
    exact ⟨_, Reads.str x t⟩
  | .list ds, _, _, h, r => by
    cases h with
    | lst hs ha =>
      cases r
      obtain ⟨its, rv, ⟨o, n, ho, hc, _, hd⟩, _⟩ := I.list hs
      obtain ⟨as, hr⟩ := Dp.readsAll I ds _ its ha rv
      exact ⟨_, Reads.list ho hc hd hr⟩
  | .tuple ds, _, _, h, r => by
    cases h with
    | tup hs ha =>
      cases r
      obtain ⟨its, rv, ⟨o, ho, hc, n, hd⟩, _⟩ := I.tuple hs
      obtain ⟨as, hr⟩ := Dp.readsAll I ds _ its ha rv
      exact ⟨_, Reads.tuple ho hc hd hr⟩
  | .dict _, _, _, h, _ => by cases h
theorem Dp.readsAll (I : Inv X pins σ H s) : ∀ (ds : List PyData) (vs : List V) (us : List Value), DpAll X.K H vs ds → Vals vs us → ∃ as, ReadsAll s.heap us ds as
  | [], _, _, h, r => by
    cases h
    cases r
    exact ⟨_, ReadsAll.nil⟩
  | d :: ds, _, _, h, r => by
    cases h with
    | cons h1 h2 =>
      cases r with
      | cons r1 r2 =>
        obtain ⟨as, q1⟩ := Dp.reads I d _ _ h1 r1
        obtain ⟨bs, q2⟩ := Dp.readsAll I ds _ _ h2 r2
        exact ⟨_, ReadsAll.cons q1 q2⟩
end
end
section
variable {X : Cx}
def rEqD (K : PySem.W.Frag) : R2 := fun x y H Q => ∃ d e, Dp K H x d ∧ Dp K H y e ∧ SeqAt.shaped d = true ∧ SeqAt.shaped e = true ∧ Q (.bl (PyData.eqv d e)) H
def rNeD (K : PySem.W.Frag) : R2 := fun x y H Q => ∃ d e, Dp K H x d ∧ Dp K H y e ∧ SeqAt.shaped d = true ∧ SeqAt.shaped e = true ∧ Q (.bl (!PyData.eqv d e)) H
theorem op_eqD (hu : X.A.units + 64 < cLine) : OpR X (compareOp .Eq) (rEqD X.K) := by
  intro pins s σ H x y v u Q I rx ry h
  obtain ⟨d, e, hd, he, sd, se, q⟩ := h
  obtain ⟨as, r1⟩ := Dp.reads I d x v hd rx
  obtain ⟨bs, r2⟩ := Dp.reads I e y u he ry
  exact SeqAt.compareEq_shaped r1 r2 sd se hu ⟨.bl _, H, I, rfl, q⟩
theorem op_neD (hu : X.A.units + 64 < cLine) : OpR X (compareOp .NotEq) (rNeD X.K) := by
  intro pins s σ H x y v u Q I rx ry h
  obtain ⟨d, e, hd, he, sd, se, q⟩ := h
  obtain ⟨as, r1⟩ := Dp.reads I d x v hd rx
  obtain ⟨bs, r2⟩ := Dp.reads I e y u he ry
  exact SeqAt.compareNe_shaped r1 r2 sd se hu ⟨.bl _, H, I, rfl, q⟩
end
end L2
namespace L2
open PySem PySem.Spec PyProof.Rows
abbrev CellAt (h : Heap) (c : Addr) (v : Option Value) : Prop := h.IsCell c v
def relS (scope sc : Scope) : Scope :=
  { scope with names := scope.names.map fun (n, k) => if (k == .free && sc.kind == .function && sc.names.lookup n == some .cell) then (n, .cell) else (n, k) }
def cloFrom (cells : List (Str × Addr)) : List (Str × NameKind) → List (Str × Addr) → List (Str × Addr)
  | [], acc => acc
  | (n, k) :: r, acc => if k == .free then cloFrom cells r ((n, (cells.lookup n).getD 0) :: acc) else cloFrom cells r acc
theorem closure_loop (env : Env) (f : Str × NameKind → List (Str × Addr) → Sem (ForInStep (List (Str × Addr))))
    (hf : ∀ n k c, f (n, k) c = if k == .free then (do let a ← cellOf env n; pure (.yield ((n, a) :: c))) else pure (.yield c)) :
    ∀ (names : List (Str × NameKind)) (acc : List (Str × Addr)), (∀ y ∈ names, y.2 = .free → ∃ c, env.cells.lookup y.1 = some c) → forIn names acc f = pure (cloFrom env.cells names acc)
  | [], acc, _ => by rw [List.forIn_nil]; rfl
  | (n, k) :: r, acc, h => by
    rw [List.forIn_cons, hf]
    have ih := fun acc => closure_loop env f hf r acc fun y hy => h y (List.mem_cons_of_mem _ hy)
    unfold cloFrom
    by_cases hk : (k == NameKind.free) = true
    · rw [if_pos hk, if_pos hk]
      obtain ⟨c, hc⟩ := h (n, k) List.mem_cons_self (by simpa using hk)
      have e : cellOf env n = pure c := by unfold cellOf; rw [hc]
      rw [e]
      have e2 : (env.cells.lookup n).getD 0 = c := by rw [hc]; rfl
      rw [e2]
      exact ih _
    · rw [if_neg hk, if_neg hk]
      exact ih _
theorem closure_ok {scope : Scope} {env : Env} (h : ∀ y ∈ scope.names, y.2 = .free → ∃ c, env.cells.lookup y.1 = some c) : closureFor scope env = pure (cloFrom env.cells scope.names []) := by
  simp only [closureFor]
  rw [closure_loop env _ (fun n k c => rfl) scope.names [] h]
  rfl
theorem mem_lookup {α : Type} : ∀ {l : List (Str × α)} {n : Str} {c : α}, (n, c) ∈ l → ∃ c', l.lookup n = some c'
  | (k, v) :: r, n, c, h => by
    rw [List.lookup_cons]
    cases hb : n == k with
    | true => exact ⟨_, rfl⟩
    | false =>
      rcases List.mem_cons.mp h with e | h
      · cases e; simp at hb
      · exact mem_lookup h
theorem cloFrom_mem {cells : List (Str × Addr)} : ∀ {names : List (Str × NameKind)} {acc : List (Str × Addr)} {n : Str} {c : Addr}, (n, c) ∈ cloFrom cells names acc → (n, c) ∈ acc ∨ ((n, .free) ∈ names ∧ c = (cells.lookup n).getD 0)
  | [], _, _, _, h => .inl h
  | (m, k) :: r, acc, n, c, h => by
    unfold cloFrom at h
    split at h
    · rename_i hk
      have hk : k = .free := by simpa using hk
      rcases cloFrom_mem h with h | ⟨h1, h2⟩
      · rcases List.mem_cons.mp h with e | h
        · cases e; exact .inr ⟨hk ▸ List.mem_cons_self, rfl⟩
        · exact .inl h
      · exact .inr ⟨List.mem_cons_of_mem _ h1, h2⟩
    · rcases cloFrom_mem h with h | ⟨h1, h2⟩
      · exact .inl h
      · exact .inr ⟨List.mem_cons_of_mem _ h1, h2⟩
theorem cloFrom_acc {cells : List (Str × Addr)} : ∀ {names : List (Str × NameKind)} {acc : List (Str × Addr)} {p : Str × Addr}, p ∈ acc → p ∈ cloFrom cells names acc
  | [], _, _, h => h
  | (m, k) :: r, acc, p, h => by
    unfold cloFrom
    split
    · exact cloFrom_acc (List.mem_cons_of_mem _ h)
    · exact cloFrom_acc h
theorem cloFrom_has {cells : List (Str × Addr)} : ∀ {names : List (Str × NameKind)} {acc : List (Str × Addr)} {n : Str}, (n, .free) ∈ names → (n, (cells.lookup n).getD 0) ∈ cloFrom cells names acc
  | (m, k) :: r, acc, n, h => by
    unfold cloFrom
    rcases List.mem_cons.mp h with e | h
    · cases e
      exact cloFrom_acc List.mem_cons_self
    · split
      · exact cloFrom_has h
      · exact cloFrom_has h
theorem cells_mem : ∀ {names : List (Str × NameKind)} {h : Heap} {acc : List (Str × Addr)} {x : Str} {c : Addr}, (x, c) ∈ cellsFrom h.objs.size names acc →
    (x, c) ∈ acc ∨ ((x, .cell) ∈ names ∧ h.objs.size ≤ c ∧ CellAt (pushCells h names) c none)
  | [], _, _, _, _, h => .inl h
  | (n, k) :: r, h, acc, x, c, hm => by
    unfold cellsFrom at hm
    unfold pushCells
    split at hm
    · rename_i hk
      rw [if_pos hk]
      have hk : k = .cell := by simpa using hk
      rw [← Heap.size_push h { cls := .type "cell", data := .cell none }] at hm
      rcases cells_mem hm with hm | ⟨h1, h2, h3⟩
      · rcases List.mem_cons.mp hm with e | hm
        · cases e
          exact .inr ⟨hk ▸ List.mem_cons_self, Nat.le_refl _, _, pushCells_keeps r _ _ _ (Heap.get?_push_size _ rfl), rfl⟩
        · exact .inl hm
      · rw [Heap.size_push] at h2
        exact .inr ⟨List.mem_cons_of_mem _ h1, Nat.le_of_succ_le h2, h3⟩
    · rename_i hk
      rw [if_neg hk]
      rcases cells_mem hm with hm | ⟨h1, h2, h3⟩
      · exact .inl hm
      · exact .inr ⟨List.mem_cons_of_mem _ h1, h2, h3⟩
theorem cells_acc : ∀ {names : List (Str × NameKind)} {n : Nat} {acc : List (Str × Addr)} {p : Str × Addr}, p ∈ acc → p ∈ cellsFrom n names acc
  | [], _, _, _, h => h
  | (m, k) :: r, n, acc, p, h => by
    unfold cellsFrom
    split
    · exact cells_acc (List.mem_cons_of_mem _ h)
    · exact cells_acc h
theorem cells_has : ∀ {names : List (Str × NameKind)} {n : Nat} {acc : List (Str × Addr)} {x : Str}, (x, .cell) ∈ names → ∃ c, (x, c) ∈ cellsFrom n names acc
  | (m, k) :: r, n, acc, x, h => by
    unfold cellsFrom
    rcases List.mem_cons.mp h with e | h
    · cases e
      exact ⟨n, cells_acc List.mem_cons_self⟩
    · split
      · exact cells_has h
      · exact cells_has h
theorem cells_inj : ∀ {names : List (Str × NameKind)} {h : Heap} {acc : List (Str × Addr)} {x y : Str} {c : Addr}, (∀ p ∈ acc, p.2 < h.objs.size) → (∀ x y c, (x, c) ∈ acc → (y, c) ∈ acc → x = y) →
    (x, c) ∈ cellsFrom h.objs.size names acc → (y, c) ∈ cellsFrom h.objs.size names acc → x = y
  | [], _, _, _, _, _, _, hi, h1, h2 => hi _ _ _ h1 h2
  | (n, k) :: r, h, acc, x, y, c, hl, hi, h1, h2 => by
    unfold cellsFrom at h1 h2
    split at h1
    · rename_i hk
      rw [if_pos hk] at h2
      rw [← Heap.size_push h { cls := .type "cell", data := .cell none }] at h1 h2
      refine cells_inj (h := h.push _) (fun p hp => ?_) (fun x y c a b => ?_) h1 h2
      · rw [Heap.size_push]
        rcases List.mem_cons.mp hp with rfl | hp
        · exact Nat.lt_succ_self _
        · exact Nat.lt_succ_of_lt (hl p hp)
      · rcases List.mem_cons.mp a with e | a <;> rcases List.mem_cons.mp b with e' | b
        · cases e; cases e'; rfl
        · cases e; exact absurd (hl _ b) (Nat.lt_irrefl _)
        · cases e'; exact absurd (hl _ a) (Nat.lt_irrefl _)
        · exact hi _ _ _ a b
    · rename_i hk
      rw [if_neg hk] at h2
      exact cells_inj hl hi h1 h2
theorem newEnv_comp {M : Model} {A : Around} {E : Value → Shared → Prop} {s : Shared} {scope : Scope} {globals : Addr} {closure : List (Str × Addr)} {qual : Str} {func : Option Addr} {code : Value} {around : Env} {builtins : Addr} {Q : Env → Shared → Prop}
    (h : Q (newEnv scope s.heap.objs.size globals (cellsFrom (s.heap.objs.size + 1) scope.names closure) qual func code (some around) builtins)
      { s with heap := pushCells (s.heap.push { cls := .type "dict", data := .dict #[] }) scope.names }) :
    wpAny M A (newFunctionEnv scope globals closure [] qual func code (some around) builtins) Q E s := by
  simp only [newFunctionEnv, Option.isSome_some, if_true]
  refine wpAny_bind (wpAny_alloc ?_)
  refine wpAny_bind (wpAny_layCells _ (fun n k c => rfl) scope.names closure _ _ ?_)
  rw [show ({ s with heap := s.heap.push { cls := .type "dict", data := .dict #[] } } : Shared).heap.objs.size = s.heap.objs.size + 1 from Heap.size_push ..]
  rw [List.forIn_nil]
  exact wpAny_bind (wpAny_pure (wpAny_pure h))
/-- every name of the written scope, in the scope that runs -/
theorem lookup_relS {sc : Scope} : ∀ {names : List (Str × NameKind)} {x : Str} {k : NameKind},
    (names.map fun (n, k) => if (k == NameKind.free && sc.kind == .function && sc.names.lookup n == some .cell) then (n, NameKind.cell) else (n, k)).lookup x = some k →
    ∃ k', names.lookup x = some k' ∧ (k = k' ∨ (k' = .free ∧ k = .cell))
  | [], _, _, h => by simp at h
  | (n, k₀) :: r, x, k, h => by
    have ih := @lookup_relS sc r x k
    have h' : List.lookup x ((if (k₀ == NameKind.free && sc.kind == .function && sc.names.lookup n == some .cell) = true then (n, NameKind.cell) else (n, k₀)) :: (r.map _)) = some k := h
    cases hx : x == n with
    | true =>
      simp only [List.lookup_cons, hx]
      by_cases hc : (k₀ == NameKind.free && sc.kind == .function && sc.names.lookup n == some .cell) = true
      · rw [if_pos hc] at h'
        simp only [List.lookup_cons, hx] at h'
        cases h'
        simp only [Bool.and_eq_true, beq_iff_eq] at hc
        exact ⟨k₀, rfl, .inr ⟨hc.1.1, rfl⟩⟩
      · rw [if_neg hc] at h'
        simp only [List.lookup_cons, hx] at h'
        cases h'
        exact ⟨_, rfl, .inl rfl⟩
    | false =>
      simp only [List.lookup_cons, hx]
      by_cases hc : (k₀ == NameKind.free && sc.kind == .function && sc.names.lookup n == some .cell) = true
      · rw [if_pos hc] at h'
        simp only [List.lookup_cons, hx] at h'
        exact ih h'
      · rw [if_neg hc] at h'
        simp only [List.lookup_cons, hx] at h'
        exact ih h'
/-- the names of a comprehension's block: its own (with their places in N), or captured -/
structure BlkOk (N : List Str) (sc scope : Scope) (own : List (Str × Nat)) : Prop where
  kind : scope.kind = .function
  uniq : ∀ y ∈ scope.names, scope.names.lookup y.1 = some y.2
  ix : ∀ p ∈ own, N[p.2]? = some p.1
  free : ∀ y ∈ scope.names, y.2 = .free → sc.names.lookup y.1 = some .cell ∨ sc.names.lookup y.1 = some .free
  own : ∀ y ∈ scope.names, y.2 = .local ∨ y.2 = .cell → y.1 ∈ own.map (·.1) ∨ y.1 ∉ N
/-- the slots of the block's own names forgotten -/
def wipe (σ : St) : List Nat → St
  | [] => σ
  | v :: vs => (wipe σ vs).set v none
theorem wipe_length (σ : St) : ∀ vs : List Nat, (wipe σ vs).length = σ.length
  | [] => rfl
  | v :: vs => by unfold wipe; rw [List.length_set, wipe_length σ vs]
theorem wipe_some {σ : St} {i : Nat} {x : V} : ∀ {vs : List Nat}, (wipe σ vs)[i]? = some (some x) → σ[i]? = some (some x) ∧ i ∉ vs
  | [], h => ⟨h, by simp⟩
  | v :: vs, h => by
    unfold wipe at h
    by_cases hi : v = i
    · subst hi
      by_cases hv : v < (wipe σ vs).length
      · rw [List.getElem?_set_self hv] at h; cases h
      · rw [List.getElem?_eq_none (by simpa using hv)] at h; cases h
    · rw [List.getElem?_set_ne hi] at h
      obtain ⟨h1, h2⟩ := wipe_some h
      exact ⟨h1, by simp only [List.mem_cons, not_or]; exact ⟨fun e => hi e.symm, h2⟩⟩
/-- the context of a block that starts at s, its iterator's objects at fp -/
abbrev Cx.blk (X : Cx) (s : Shared) (H : Hp) (scope : Scope) (cenv : Env) (fp : List Addr) : Cx := { X with s_0 := s, H_0 := H, env := cenv, outer := X.stack, ex := fp, fn := fun x => scope.names.lookup x == some .cell, pn := [], xe := fun _ _ => False }
section
variable {X : Cx} {pins : List (Addr × Obj)} {σ : St} {H : Hp} {s : Shared}
theorem block_start {scope : Scope} {own : List (Str × Nat)} {fp : List Addr} (I : Inv X pins σ H s) (ok : BlkOk X.N X.env.scope scope own) (hN : X.N.Nodup) (hfp : ∀ b ∈ fp, FpOk X pins H b ∧ b < s.heap.objs.size) :
    Inv (X.blk s H scope (compEnvC scope (cellsFrom (s.heap.objs.size + 1) scope.names (cloFrom X.env.cells scope.names [])) s.heap.objs.size X.env) fp) [] (wipe σ (own.map (·.2))) H { s with heap := pushCells (s.heap.push { cls := .type "dict", data := .dict #[] }) scope.names } := by
  have hfree : ∀ y ∈ scope.names, y.2 = .free → ∃ c, X.env.cells.lookup y.1 = some c := fun y hy e => by
    rcases ok.free y hy e with k | k
    · exact I.ok.has _ (.inl k)
    · exact I.ok.has _ (.inr k)
  generalize hcenv : compEnvC scope (cellsFrom (s.heap.objs.size + 1) scope.names (cloFrom X.env.cells scope.names [])) s.heap.objs.size X.env = cenv
  have kp : ∀ b o, s.heap.get? b = some o → (pushCells (s.heap.push { cls := .type "dict", data := .dict #[] }) scope.names).get? b = some o := fun b o e => pushCells_keeps _ _ _ _ (Heap.get?_push_of_some _ e)
  have hL : cenv.locals = s.heap.objs.size := by rw [← hcenv]; rfl
  have hcl : cenv.cells = cellsFrom (s.heap.objs.size + 1) scope.names (cloFrom X.env.cells scope.names []) := by rw [← hcenv]; rfl
  have hsc : cenv.scope = relS scope X.env.scope := by rw [← hcenv]; rfl
  rw [← Heap.size_push s.heap { cls := .type "dict", data := .dict #[] }] at hcl
  have cm : ∀ {y c}, (y, c) ∈ cloFrom X.env.cells scope.names [] → X.env.cells.lookup y = some c ∧ c < s.heap.objs.size := fun {y c} hm => by
    rcases cloFrom_mem hm with hm | ⟨h1, rfl⟩
    · cases hm
    · obtain ⟨c, hc⟩ := hfree _ h1 rfl
      rw [hc]
      obtain ⟨w, z⟩ := I.cell _ _ hc
      exact ⟨rfl, z.lt⟩
  have mem : ∀ {y c}, cenv.cells.lookup y = some c → (X.env.cells.lookup y = some c ∧ c < s.heap.objs.size) ∨ (s.heap.objs.size + 1 ≤ c ∧ CellAt (pushCells (s.heap.push { cls := .type "dict", data := .dict #[] }) scope.names) c none) := fun {y c} e => by
    rw [hcl] at e
    rcases cells_mem (PySem.mem_of_lookup e) with hm | ⟨_, h2, h3⟩
    · exact .inl (cm hm)
    · rw [Heap.size_push] at h2; exact .inr ⟨h2, h3⟩
  have look : ∀ {y}, scope.names.lookup y = some .free → ∃ c, cenv.cells.lookup y = some c ∧ X.env.cells.lookup y = some c := fun {y} hl => by
    have hy : (y, NameKind.free) ∈ scope.names := PySem.mem_of_lookup hl
    obtain ⟨c', e'⟩ := mem_lookup (cells_acc (names := scope.names) (n := (s.heap.push { cls := .type "dict", data := .dict #[] }).objs.size) (cloFrom_has (cells := X.env.cells) (acc := []) hy))
    rw [← hcl] at e'
    refine ⟨c', e', ?_⟩
    rw [hcl] at e'
    rcases cells_mem (PySem.mem_of_lookup e') with hm | ⟨h1, _, _⟩
    · exact (cm hm).1
    · have := ok.uniq _ h1
      rw [hl] at this; cases this
  have okB : (X.blk s H scope cenv fp).Ok := by
    refine ⟨I.ok.mod, by show cenv.scope.kind = _; rw [hsc]; exact ok.kind, by show cenv.globals = _; rw [← hcenv]; exact I.ok.glob, by show cenv.builtins = _; rw [← hcenv]; exact I.ok.blt, by show s.heap.objs.size ≤ cenv.locals; rw [hL]; exact Nat.le_refl _,
      fun y z c e1 e2 => ?_, fun y hy => ?_, fun y c z e => ?_, I.ok.hd, I.ok.frames, .inl rfl, fun b hb => ⟨?_, fun y c e z => ?_⟩, I.bs, Nat.le_trans I.ok.bsz I.sz, fun b o e hb => ?_, fun b hb z => ?_, I.stack, I.stkFree⟩
    · have e1 : cenv.cells.lookup y = some c := e1
      have e2 : cenv.cells.lookup z = some c := e2
      rw [hcl] at e1 e2
      refine cells_inj (fun p hp => ?_) (fun y z c a b => I.ok.inj y z c (cm a).1 (cm b).1) (PySem.mem_of_lookup e1) (PySem.mem_of_lookup e2)
      rw [Heap.size_push]
      exact Nat.lt_succ_of_lt (cm (y := p.1) (c := p.2) hp).2
    · show ∃ c, cenv.cells.lookup y = some c
      have key : ∀ k, cenv.kindOf y = some k → (k = .cell ∨ k = .free) → ∃ c, cenv.cells.lookup y = some c := fun k hk hk' => by
        unfold Env.kindOf at hk
        rw [hsc] at hk
        obtain ⟨k', e, r⟩ := lookup_relS hk
        have : k' = .cell ∨ k' = .free := by
          rcases r with rfl | ⟨rfl, _⟩
          · exact hk'
          · exact .inr rfl
        rcases this with rfl | rfl
        · obtain ⟨c, hm⟩ := cells_has (n := (s.heap.push { cls := .type "dict", data := .dict #[] }).objs.size) (acc := cloFrom X.env.cells scope.names []) (PySem.mem_of_lookup e)
          obtain ⟨c', e'⟩ := mem_lookup hm
          exact ⟨c', by rw [hcl]; exact e'⟩
        · obtain ⟨c, h1, _⟩ := look e
          exact ⟨c, h1⟩
      rcases hy with hy | hy
      · exact key _ hy (.inl rfl)
      · exact key _ hy (.inr rfl)
    · have z : (scope.names.lookup y == some NameKind.cell) = true := z
      have z : scope.names.lookup y = some .cell := by simpa using z
      have e : cenv.cells.lookup y = some c := e
      rw [hcl] at e
      rcases cells_mem (PySem.mem_of_lookup e) with hm | ⟨_, h2, _⟩
      · rcases cloFrom_mem hm with hm | ⟨h1, _⟩
        · cases hm
        · have q := ok.uniq _ h1
          rw [z] at q; cases q
      · rw [Heap.size_push] at h2
        exact Nat.le_of_succ_le h2
    · show b ≠ cenv.locals
      rw [hL]; exact Nat.ne_of_lt (hfp b hb).2
    · have e : cenv.cells.lookup y = some c := e
      rcases mem e with ⟨h1, _⟩ | ⟨h1, _⟩
      · exact (hfp b hb).1.2.2.2.2.1 y c h1 z
      · have h2 : s.heap.objs.size + 1 ≤ b := by rw [← z]; exact h1
        exact absurd (Nat.lt_of_lt_of_le (hfp b hb).2 (Nat.le_of_succ_le h2)) (Nat.lt_irrefl _)
    · rcases (hfp b hb).1.2.2.2.1 with z | z
      · exact I.ok.noex b o e z
      · exact absurd (Nat.lt_of_lt_of_le (Heap.lt_size e) (Nat.le_trans I.ok.bsz z)) (Nat.lt_irrefl _)
    · rcases List.mem_cons.mp (I.stkSub b z) with z | z
      · exact (hfp b hb).1.2.1 z
      · exact (hfp b hb).1.2.2.1 z
  refine ⟨okB, rfl, I.bare, Un.kept kp, ⟨fun _ => none, ?_, fun i y av e1 e2 e3 => ?_⟩, fun y c e => ?_, ?_, fun y c e => ?_, fun p hp => ?_, I.hok.kept kp, by rw [wipe_length]; exact I.len⟩
  · show Heap.Ns _ cenv.locals _
    rw [hL]
    exact Heap.Ns.keeps (Heap.Ns.new ..) fun b o e => pushCells_keeps _ _ _ _ e
  · obtain ⟨e2, hne⟩ := wipe_some e2
    have hfr : scope.names.lookup y = some .free ∧ (cenv.kindOf y = some .cell ∨ cenv.kindOf y = some .free) := by
      have key : ∀ k, cenv.scope.names.lookup y = some k → k = .local ∨ k = .cell ∨ k = .free → scope.names.lookup y = some .free ∧ (cenv.kindOf y = some .cell ∨ cenv.kindOf y = some .free) := fun k hk hk' => by
        have hk0 := hk
        rw [hsc] at hk
        obtain ⟨k', e, r⟩ := lookup_relS hk
        have no : ¬ (k' = .local ∨ k' = .cell) := fun hh => by
          rcases ok.own _ (PySem.mem_of_lookup e) hh with e' | e'
          · obtain ⟨p, hp, hpy⟩ := List.mem_map.mp e'
            have e3 := ok.ix p hp
            have : p.1 = y := hpy
            rw [this] at e3
            exact hne (List.mem_map.mpr ⟨p, hp, nodup_ix hN e3 e1⟩)
          · exact e' (List.mem_of_getElem? e1)
        rcases r with rfl | ⟨rfl, rfl⟩
        · rcases hk' with rfl | rfl | rfl
          · exact absurd (.inl rfl) no
          · exact absurd (.inr rfl) no
          · exact ⟨e, .inr hk0⟩
        · exact ⟨e, .inl hk0⟩
      have e3 : Vis cenv.scope y := e3
      rcases e3 with e3 | e3 | e3
      · exact key _ e3 (.inl rfl)
      · exact key _ e3 (.inr (.inl rfl))
      · exact key _ e3 (.inr (.inr rfl))
    obtain ⟨m, hn, hl⟩ := I.loc
    have hvis : Vis X.env.scope y := (ok.free _ (PySem.mem_of_lookup hfr.1) rfl).elim (fun k => .inr (.inl k)) (fun k => .inr (.inr k))
    obtain ⟨w, r, q⟩ := hl i y av e1 e2 hvis
    refine ⟨w, r, .inr ⟨hfr.2, ?_⟩⟩
    obtain ⟨c, h1, h2⟩ := look hfr.1
    rcases q with ⟨k, _⟩ | ⟨_, c', e', z⟩
    · have k : X.env.scope.names.lookup y = some .local := k
      rcases ok.free _ (PySem.mem_of_lookup hfr.1) rfl with k' | k' <;> rw [show X.env.scope.names.lookup y = _ from k'] at k <;> cases k
    · rw [h2] at e'; cases e'
      exact ⟨c, h1, z.keeps kp⟩
  · have e : cenv.cells.lookup y = some c := e
    rcases mem e with ⟨h1, _⟩ | ⟨_, z⟩
    · obtain ⟨w, z⟩ := I.cell y c h1
      exact ⟨w, z.keeps kp⟩
    · exact ⟨_, z⟩
  · show H cenv.locals = none
    rw [hL]; exact I.hok.fresh (Nat.le_refl _)
  · have e : cenv.cells.lookup y = some c := e
    rcases mem e with ⟨h1, _⟩ | ⟨h1, _⟩
    · exact I.freeC y c h1
    · exact I.hok.fresh (Nat.le_of_succ_le h1)
  · exact absurd (show p ∈ ([] : List (Addr × Obj)) ++ [] from hp) (by simp)
/-- an item appended to a tracked list -/
theorem app_ok {E : Value → Shared → Prop} {D : Addr} {xs : List V} {y : V} {v : Value} {Q : Value → Shared → Prop} (I : Inv X pins σ H s) (hD : H D = some (.lst xs)) (hz : xs.length < sizeLine) (r : RelV y v)
    (h : ∀ s', Inv X pins σ (upd H D (.lst (xs ++ [y]))) s' → Q .none s') : wpAny (model X.prog X.w) X.A (call (.builtin "list.append") [.ref D, v]) Q E s := by
  obtain ⟨hz', its, n, ri, e⟩ := I.hok D _ hD
  have hl := ri.length
  refine append_at (hsz := by rw [List.size_toArray]; omega) e fun h' sb ho' => ?_
  refine h { s with heap := h' } (I.write (t' := s.toks) (by rw [hD]; trivial) (.inl rfl) (fun b u hb q => (sb.2 b hb).trans q) ⟨_, ho'⟩ ⟨by rw [List.length_append]; exact hz, its ++ [v], n + 1, ri.append (.cons r .nil), ?_⟩)
  rw [ho']
  simp
/-- a clause's tests -/
def PTs (X : Cx) (ifs : List Expr) (t : TT) : Prop :=
  ∀ (pins : List (Addr × Obj)) (s : Shared) (σ : St) (H : Hp) (Q : Bool → Hp → Prop), Inv X pins σ H s → t σ H Q →
    wpAny (model X.prog X.w) X.A (forIn ifs true fun c r => if r = true then do let ok ← isTrue c X.env (eval c X.env); pure (ForInStep.yield ok) else pure (ForInStep.yield r)) (TP X pins σ Q) X.xe s
def tYes : TT := fun _ H Q => Q true H
theorem pts_nil : PTs X [] tYes := fun _ _ _ H _ I h => wpAny_tests_nil ⟨H, I, h⟩
theorem pts_one {c : Expr} {t : TT} (h : PT X c t) : PTs X [c] t := fun pins s σ H Q I hw => wpAny_tests_one (h pins s σ H Q I hw)
end
theorem thnF {α : Type} {t : Sem α} {Q Q' : α → Shared → Prop} {M : Model} {A : Around} {E : Value → Shared → Prop} {s : Shared} (h : wpAny M A t Q (fun _ _ => False) s) (hQ : ∀ a s, Q a s → Q' a s) : wpAny M A t Q' E s := wpAny_mono h hQ fun _ _ z => False.elim z
/-- the loop of a list comprehension's block, the target of any form (codeAny_compLoop_tests asks a target that no tuple goes to; statement and proof follow it, PyProof/CompMap.lean:41-61, with the step letOwnedTupleGo kept) -/
theorem compLoop_any {prog : Program} {w : World} {A : Around} {R : Result → Shared → Prop} {s : Shared} {elt target iter : Expr} {ifs : List Expr} {scope : Scope} {pos : Pos} {it acc : Value} {env : Env} (I : Nat → Shared → Prop)
    (turn : ∀ n s, I n s → wpAny (model prog w) A (pyNext it) (fun r s₁ => match r with
      | none => R (.ok .next) s₁
      | some v => wpAny (model prog w) A (letOwnedTupleGo target it v) (fun _ s₁' => wpAny (model prog w) A (assign target env v) (fun _ s₂ =>
          wpAny (model prog w) A (forIn ifs true fun c r => if r = true then do let ok ← isTrue c env (eval c env); pure (ForInStep.yield ok) else pure (ForInStep.yield r)) (fun ok s₃ =>
            if ok = true then wpAny (model prog w) A (eval elt env) (fun x s₄ =>
              wpAny (model prog w) A (call (.builtin "list.append") [acc, x]) (fun _ s₅ => ∃ m, m < n ∧ I m s₅) (notedBy (model prog w) A env fun e s' => R (.error e) s') s₄) (notedBy (model prog w) A env fun e s' => R (.error e) s') s₃
            else ∃ m, m < n ∧ I m s₃) (notedBy (model prog w) A env fun e s' => R (.error e) s') s₂) (notedBy (model prog w) A env fun e s' => R (.error e) s') s₁') (notedBy (model prog w) A env fun e s' => R (.error e) s') s₁) (notedBy (model prog w) A env fun e s' => R (.error e) s') s)
    (n : Nat) (h : I n s) :
    codeAny (model prog w) A (.compLoop (.ListComp elt [⟨target, iter, ifs, 0⟩] scope pos) 0 it acc env) R s := by
  refine codeAny_loop rfl I (fun n s hI => ?_) n h
  show wpAny _ A ((compTurn (.ListComp elt [⟨target, iter, ifs, 0⟩] scope pos) 0 it acc env).onRaise (fun x => do noteFrame x env; theTreesLotGoes x)) _ _ s
  refine wpAny_noted ?_
  rw [compTurn_list]
  refine wpAny_bind (wpAny_standAt (wpAny_bind (wpAny_mono (turn n s hI) (fun r s₁ h₁ => ?_) fun _ _ h' => h')))
  cases r with
  | none => exact wpAny_pure h₁
  | some v =>
    refine wpAny_bind (wpAny_mono h₁ (fun _ s₁' h₁' => ?_) fun _ _ h' => h')
    refine wpAny_bind (wpAny_mono h₁' (fun _ s₂ h₂ => wpAny_bind (wpAny_mono h₂ (fun ok s₃ h₃ => ?_) fun _ _ h' => h')) fun _ _ h' => h')
    cases ok with
    | false => exact wpAny_pure ⟨rfl, h₃⟩
    | true =>
      exact wpAny_bind (wpAny_bind (wpAny_mono h₃ (fun x s₄ h₄ => wpAny_bind (wpAny_mono h₄ (fun _ s₅ h₅ => wpAny_pure (wpAny_pure ⟨rfl, h₅⟩)) fun _ _ h' => h')) fun _ _ h' => h'))
section
variable {X : Cx}
/-- [elt for target in iter if ..]: D the new list; W by the turn and a measure, Nx what a turn is to reach -/
def tLc (wi : TI) (g : TG) (tt : TT) (te : TE) (vs : List Nat) : TE := fun σ H Q => wi σ H fun J H1 => ∀ D, H1 D = none → ∃ W : Nat → Nat → Hp → Prop, (∃ m, W 0 m (upd H1 D (.lst []))) ∧ ∀ i m H, W i m H →
  (J.stop i H ∧ Q (.ref D) H) ∨ (J.go i H ∧ ∃ Nx : Hp → Prop, (∀ H', Nx H' → ∃ m', m' < m ∧ W (i + 1) m' H') ∧ ∀ x H', J.yld i H x H' → g x (wipe σ vs) H' fun σ2 H2 => wipe σ2 vs = wipe σ vs ∧ tt σ2 H2 fun b H3 =>
    if b = true then te σ2 H3 fun y H4 => ∃ acc, H4 D = some (.lst acc) ∧ acc.length < sizeLine ∧ Nx (upd H4 D (.lst (acc ++ [y]))) else Nx H3)
theorem lc_core {pins : List (Addr × Obj)} {s : Shared} {σ : St} {H : Hp} {Q : VK} {elt tg iter : Expr} {ifs : List Expr} {scope : Scope} {own : List (Str × Nat)} {pos pos' : Pos} {wi : TI} {g : TG} {tt : TT} {te : TE} {use : Option (Value → Sem Unit)} {Qf : Value → Shared → Prop}
    (hc : X.calm = true) (hN : X.N.Nodup) (I : Inv X pins σ H s) (hi : PI X tg iter wi) (ok : BlkOk X.N X.env.scope scope own)
    (hg : ∀ (s : Shared) (H : Hp) (C : Addr) (cl : List (Str × Addr)) (fp : List Addr), PG (X.blk s H scope (compEnvC scope cl C X.env) fp) tg g) (ht : ∀ (s : Shared) (H : Hp) (C : Addr) (cl : List (Str × Addr)) (fp : List Addr), PTs (X.blk s H scope (compEnvC scope cl C X.env) fp) ifs tt)
    (he : ∀ (s : Shared) (H : Hp) (C : Addr) (cl : List (Str × Addr)) (fp : List Addr), PE (X.blk s H scope (compEnvC scope cl C X.env) fp) elt te) (hs : ∀ x, foldedSetIterable iter X.env x = pure x)
    (h : tLc wi g tt te (own.map (·.2)) σ H Q)
    (hRR : ∀ D C s' m H', Inv X pins σ H' s' → Q (.ref D) H' → s'.heap.Ns C m → FpOk X pins H' C → compPost (model X.prog X.w) X.A X.xe use Qf (.ref D) C (.ok .next) s') :
    wpAny (model X.prog X.w) X.A (comprehension (.ListComp elt [⟨tg, iter, ifs, 0⟩] scope pos) scope X.env pos' (newList []) false (eval iter X.env) use) Qf X.xe s := by
  have hfree : ∀ y ∈ scope.names, y.2 = .free → ∃ c, X.env.cells.lookup y.1 = some c := fun y hy e => by
    rcases ok.free y hy e with k | k
    · exact I.ok.has _ (.inl k)
    · exact I.ok.has _ (.inr k)
  refine wpAny_comprehension_free (use := use) rfl hs (closure_ok hfree) ok.kind (fun y hy e => by rw [ok.uniq y hy, e])
    (thn (hi pins s σ H _ I h) fun xv s1 hx => thn hx fun itv s2 h2 => ?_)
  obtain ⟨it, fp, tn, J, H2, e, I2, T, st2, f2, q⟩ := h2
  subst e
  refine wpAny_newObj_type (newEnv_comp ?_) (by show 0 ≤ sizeLine; decide)
  generalize hD : s2.heap.objs.size = D
  have hDn : H2 D = none := I2.hok.fresh (Nat.le_of_eq hD)
  obtain ⟨W, ⟨m0, w0⟩, turn⟩ := q D hDn
  -- the new list
  generalize hs3 : ({ s2 with heap := s2.heap.push { cls := .type "list", data := .seq ([] : List Value).toArray } } : Shared) = s3
  have I3 : Inv X pins σ (upd H2 D (.lst [])) s3 := by
    rw [← hs3]
    refine I2.laid (t' := s2.toks) (fun b o e => Heap.get?_push_of_some _ e) (Nat.le_of_eq hD) ⟨Nat.zero_le _, [], 0, .nil, ?_⟩
    rw [← hD]
    exact Heap.get?_push_size _ rfl
  have h3 : s3.heap = s2.heap.push { cls := .type "list", data := .seq ([] : List Value).toArray } := by rw [← hs3]
  have sz : ∀ b ∈ fp, b < s2.heap.objs.size := fun b hb => by
    obtain ⟨o, e, _⟩ := T.obj _ _ st2 b hb
    exact Heap.lt_size e
  have f3 : ∀ b ∈ fp, FpOk X pins (upd H2 D (.lst [])) b ∧ b < s3.heap.objs.size := fun b hb => by
    have hlt := sz b hb
    refine ⟨⟨?_, (f2 b hb).2⟩, by rw [h3, Heap.size_push]; exact Nat.lt_succ_of_lt hlt⟩
    rw [upd_ne (by rw [← hD]; exact Nat.ne_of_lt hlt)]
    exact (f2 b hb).1
  have st3 : tn 0 s3.heap := T.keep _ _ _ st2 fun b _ o e => by rw [h3]; exact Heap.get?_push_of_some _ e
  have I4 := block_start I3 ok hN f3
  have pg := hg s3 (upd H2 D (.lst [])) s3.heap.objs.size (cellsFrom (s3.heap.objs.size + 1) scope.names (cloFrom X.env.cells scope.names [])) fp
  have pt := ht s3 (upd H2 D (.lst [])) s3.heap.objs.size (cellsFrom (s3.heap.objs.size + 1) scope.names (cloFrom X.env.cells scope.names [])) fp
  have pe := he s3 (upd H2 D (.lst [])) s3.heap.objs.size (cellsFrom (s3.heap.objs.size + 1) scope.names (cloFrom X.env.cells scope.names [])) fp
  show codeAny _ _ (.compStart (.ListComp elt [⟨tg, iter, ifs, 0⟩] scope pos) 0 (.ref it) (.ref D) (compEnvC scope (cellsFrom (s3.heap.objs.size + 1) scope.names (cloFrom X.env.cells scope.names [])) s3.heap.objs.size X.env)) (compPost (model X.prog X.w) X.A X.xe use Qf (.ref D) s3.heap.objs.size) { s3 with heap := pushCells (s3.heap.push { cls := .type "dict", data := .dict #[] }) scope.names }
  have nfp : ∀ b ∈ fp, (upd H2 D (.lst [])) b = none := fun b hb => (f3 b hb).1.1
  generalize hce : compEnvC scope (cellsFrom (s3.heap.objs.size + 1) scope.names (cloFrom X.env.cells scope.names [])) s3.heap.objs.size X.env = ce at I4 pg pt pe ⊢
  have cL : ce.locals = s3.heap.objs.size := by subst hce; rfl
  generalize hH3 : upd H2 D (.lst []) = H3 at I3 I4 pg pt pe w0 nfp f3
  generalize hs4 : ({ s3 with heap := pushCells (s3.heap.push { cls := .type "dict", data := .dict #[] }) scope.names } : Shared) = s4 at I4 ⊢
  have st4 : tn 0 s4.heap := T.keep _ _ _ st3 fun b _ o e => by rw [← hs4]; exact pushCells_keeps _ _ _ _ (Heap.get?_push_of_some _ e)
  have stat : ∀ {σ' : St} {H' : Hp} {s' : Shared}, Inv (X.blk s3 H3 scope ce fp) [] σ' H' s' → (∀ b ∈ fp, H' b = none) → ∀ b ∈ fp, FpOk (X.blk s3 H3 scope ce fp) [] H' b := fun {σ' H' s'} I' hn b hb =>
    ⟨hn b hb, (I'.ok.exf b hb).1, I'.ok.exfs b hb, .inl hb, fun x c e => (I'.ok.exf b hb).2 x c e, fun p hp => absurd (show p ∈ ([] : List (Addr × Obj)) ++ [] from hp) (by simp)⟩
  have loop : codeAny (model X.prog X.w) X.A (.compLoop (.ListComp elt [⟨tg, iter, ifs, 0⟩] scope pos) 0 (.ref it) (.ref D) ce) (compPost (model X.prog X.w) X.A X.xe use Qf (.ref D) s3.heap.objs.size) s4 := by
    refine compLoop_any (fun n s' => ∃ i H', Inv (X.blk s3 H3 scope ce fp) [] (wipe σ (own.map (·.2))) H' s' ∧ tn i s'.heap ∧ (∀ b ∈ fp, H' b = none) ∧ W i n H') ?_ m0 ⟨0, H3, I4, st4, nfp, w0⟩
    rintro n s5 ⟨i, H5, I5, st5, n5, w5⟩
    rcases turn i n H5 w5 with ⟨stop, qq⟩ | ⟨go, Nx, hNx, step⟩
    · have td := T.done (X.blk s3 H3 scope ce fp) rfl rfl rfl hc i [] s5 _ H5 (fun _ _ => False) I5 (stat I5 n5) st5 stop
      refine thnF td fun r s6 ⟨hr, I6⟩ => ?_
      subst hr
      -- back in the def's context
      have I7 : Inv X pins σ H5 s6 := I3.call' (ch := fp) I6.os I6.base I6.hok I6.bare fun b hb => ⟨(f3 b hb).1.2.2.2.1, (f3 b hb).1.2.1, (f3 b hb).1.2.2.2.2.1, (f3 b hb).1.2.2.2.2.2⟩
      have nC : H5 s3.heap.objs.size = none := by
        have z : H5 ce.locals = none := I6.free
        rw [cL] at z
        exact z
      obtain ⟨m, hn, _⟩ := I6.loc
      have hn : s6.heap.Ns ce.locals m := hn
      rw [cL] at hn
      exact hRR D s3.heap.objs.size s6 m H5 I7 qq hn (I3.fpOk (Nat.le_refl _) nC)
    · have ti := T.item (X.blk s3 H3 scope ce fp) rfl rfl rfl hc i [] s5 _ H5 (fun _ _ => False) I5 (stat I5 n5) st5 go
      refine thnF ti fun r s6 ⟨u, hr, h6⟩ => ?_
      subst hr
      refine thnF h6 fun _ s7 ⟨x, H7, I7, r7, y7, st7, n7⟩ => ?_
      have I7' := I7.pinned (stat I7 n7) (T.obj _ _ st7)
      refine thnF (pg _ s7 _ H7 x u _ I7' r7 (step x H7 y7)) fun _ s8 ⟨σ8, H8, I8, hw8, q8⟩ => ?_
      refine thnF (pt _ s8 σ8 H8 _ I8 q8) fun b s9 ⟨H9, I9, q9⟩ => ?_
      -- the turn's end
      have fin : ∀ {s' : Shared} {H' : Hp}, Inv (X.blk s3 H3 scope ce fp) ([] ++ pinsAt fp s7.heap) σ8 H' s' → Nx H' → ∃ m, m < n ∧ ∃ i H', Inv (X.blk s3 H3 scope ce fp) [] (wipe σ (own.map (·.2))) H' s' ∧ tn i s'.heap ∧ (∀ b ∈ fp, H' b = none) ∧ W i m H' := fun {s' H'} I' nx => by
        obtain ⟨m', hm, w'⟩ := hNx H' nx
        have pin' : ∀ b ∈ fp, ∀ o, s7.heap.get? b = some o → s'.heap.get? b = some o ∧ H' b = none := fun b hb o e =>
          let z := I'.pin (b, o) (List.mem_append_right _ (List.mem_append_right _ (mem_pinsAt hb e)))
          ⟨z.1, z.2.1⟩
        have hl : (wipe σ (own.map (·.2))).length = σ8.length := by rw [← hw8, wipe_length]
        refine ⟨m', hm, i + 1, H', (I'.unpinned (pins := [])).weak hl (fun j v e => ?_), T.keep _ _ _ st7 fun b hb o e => (pin' b hb o e).1, fun b hb => ?_, w'⟩
        · rw [← hw8] at e
          exact (wipe_some e).1
        · obtain ⟨o, e, _⟩ := T.obj _ _ st7 b hb
          exact (pin' b hb o e).2
      cases b with
      | false =>
        simp only [Bool.false_eq_true, if_false] at q9 ⊢
        exact fin I9 q9
      | true =>
        simp only [if_true] at q9 ⊢
        refine thnF (pe _ s9 σ8 H9 _ I9 q9) fun z s10 ⟨yv, H10, I10, r10, acc, hD10, hz10, nx⟩ => ?_
        exact app_ok (X := X.blk s3 H3 scope ce fp) I10 hD10 hz10 r10 fun s11 I11 => fin I11 nx
  exact codeAny_compStart_list loop (T.self X.A 0 _ _ _ st4 loop)
/-- as a value -/
theorem pe_lc {elt tg iter : Expr} {ifs : List Expr} {scope : Scope} {own : List (Str × Nat)} {pos : Pos} {wi : TI} {g : TG} {tt : TT} {te : TE} (hc : X.calm = true) (hN : X.N.Nodup) (hi : PI X tg iter wi) (ok : BlkOk X.N X.env.scope scope own)
    (hg : ∀ (s : Shared) (H : Hp) (C : Addr) (cl : List (Str × Addr)) (fp : List Addr), PG (X.blk s H scope (compEnvC scope cl C X.env) fp) tg g) (ht : ∀ (s : Shared) (H : Hp) (C : Addr) (cl : List (Str × Addr)) (fp : List Addr), PTs (X.blk s H scope (compEnvC scope cl C X.env) fp) ifs tt)
    (he : ∀ (s : Shared) (H : Hp) (C : Addr) (cl : List (Str × Addr)) (fp : List Addr), PE (X.blk s H scope (compEnvC scope cl C X.env) fp) elt te) (hs : ∀ x, foldedSetIterable iter X.env x = pure x := by intro _; rfl) :
    PE X (.ListComp elt [⟨tg, iter, ifs, 0⟩] scope pos) (tLc wi g tt te (own.map (·.2))) := by
  intro pins s σ H Q I h
  rw [eval_ListComp]
  refine lc_core hc hN I hi ok hg ht he hs h fun D C s' m H' I' q hn f => ⟨m, hn, fun h'' sb => ?_⟩
  obtain ⟨f0, f1, f2, f3, f4, f5⟩ := f
  exact ⟨.ref D, H', I'.turned (t' := s'.toks) (fun b o hb e => (sb.2 b hb).trans e) f0 f1 f3 f4 f5, rfl, q⟩
/-- name = [..] on one line, the name a local -/
theorem ps_setLc {i : Nat} {y : Str} {py : Pos} {elt tg iter : Expr} {ifs : List Expr} {scope : Scope} {own : List (Str × Nat)} {pos spos : Pos} {wi : TI} {g : TG} {tt : TT} {te : TE} (hc : X.calm = true) (hN : X.N.Nodup) (hy : X.N[i]? = some y) (hyl : X.env.scope.names.lookup y = some .local)
    (hsw : swapsWith (.ListComp elt [⟨tg, iter, ifs, 0⟩] scope pos) (some (.Name y py)) spos.line X.env = pure true) (hi : PI X tg iter wi) (ok : BlkOk X.N X.env.scope scope own)
    (hg : ∀ (s : Shared) (H : Hp) (C : Addr) (cl : List (Str × Addr)) (fp : List Addr), PG (X.blk s H scope (compEnvC scope cl C X.env) fp) tg g) (ht : ∀ (s : Shared) (H : Hp) (C : Addr) (cl : List (Str × Addr)) (fp : List Addr), PTs (X.blk s H scope (compEnvC scope cl C X.env) fp) ifs tt)
    (he : ∀ (s : Shared) (H : Hp) (C : Addr) (cl : List (Str × Addr)) (fp : List Addr), PE (X.blk s H scope (compEnvC scope cl C X.env) fp) elt te) (hs : ∀ x, foldedSetIterable iter X.env x = pure x := by intro _; rfl) :
    PS X (.Assign [.Name y py] (.ListComp elt [⟨tg, iter, ifs, 0⟩] scope pos) spos) (tAsg (tLc wi g tt te (own.map (·.2))) (gName i)) := by
  intro pins s σ H D I h
  rw [exec_Assign_Name_used _ _ _ _ hsw]
  refine wpAny_bind (wpAny_standAt (wpAny_bind ?_))
  show wpAny _ X.A (do let _ ← comprehension (.ListComp elt [⟨tg, iter, ifs, 0⟩] scope pos) scope X.env (firstIterPos [⟨tg, iter, ifs, 0⟩] pos) (newList []) false (eval iter X.env) (some (assign (.Name y py) X.env))) _ _ s
  have h : tLc wi g tt te (own.map (·.2)) σ H (fun x H1 => gName i x σ H1 D.nx) := h
  refine wpAny_bind (thn (lc_core (Qf := fun _ s' => SP X pins D .next s') hc hN I hi ok hg ht he hs h fun L C s' m H' I' q hn f => ?_) fun _ s' hq => wpAny_pure (wpAny_pure hq))
  show wpAny _ _ (assign (.Name y py) X.env (.ref L)) _ _ _
  refine wpAny_assign_Name (store_ok2 (v := V.ref L) I' hN hy (.inl hyl) rfl (fun s2 I2 ⟨a, sb, ha⟩ => ?_) (.inr hyl))
  obtain ⟨f0, f1, f2, f3, f4, f5⟩ := f
  have haC : C ≠ a := by
    rcases ha with z | z
    · rw [z]; exact f1
    · exact fun e => f4 y a z e.symm
  refine ⟨m, hn.sameBut sb haC, fun h3 sb3 => ?_⟩
  exact ⟨_, H', I2.turned (t' := s2.toks) (fun b o hb e => (sb3.2 b hb).trans e) f0 f1 f3 f4 f5, q⟩
end
/-! ### the forms one uses -/
/-- over a range: Pv by the turn and the heap (the new list at D within) -/
theorem lc_range {lo : Int} {n : Nat} {g : TG} {tt : TT} {te : TE} {vs : List Nat} {σ : St} {H1 : Hp} {D : Addr} {Qd : Hp → Prop} (Pv : Nat → Hp → Prop) (h0 : Pv 0 (upd H1 D (.lst [])))
    (hs : ∀ i H, i < n → Pv i H → g (.int (lo + i)) (wipe σ vs) H fun σ2 H2 => wipe σ2 vs = wipe σ vs ∧ tt σ2 H2 fun b H3 =>
      if b = true then te σ2 H3 fun y H4 => ∃ acc, H4 D = some (.lst acc) ∧ acc.length < sizeLine ∧ Pv (i + 1) (upd H4 D (.lst (acc ++ [y]))) else Pv (i + 1) H3) (hd : ∀ H, Pv n H → Qd H) :
    ∃ W : Nat → Nat → Hp → Prop, (∃ m, W 0 m (upd H1 D (.lst []))) ∧ ∀ i m H, W i m H →
      ((Itr lo n).stop i H ∧ Qd H) ∨ ((Itr lo n).go i H ∧ ∃ Nx : Hp → Prop, (∀ H', Nx H' → ∃ m', m' < m ∧ W (i + 1) m' H') ∧ ∀ x H', (Itr lo n).yld i H x H' → g x (wipe σ vs) H' fun σ2 H2 => wipe σ2 vs = wipe σ vs ∧ tt σ2 H2 fun b H3 =>
        if b = true then te σ2 H3 fun y H4 => ∃ acc, H4 D = some (.lst acc) ∧ acc.length < sizeLine ∧ Nx (upd H4 D (.lst (acc ++ [y]))) else Nx H3) := by
  refine ⟨fun i m H => m = n - i ∧ i ≤ n ∧ Pv i H, ⟨n, by simp, Nat.zero_le _, h0⟩, ?_⟩
  rintro i m H ⟨rfl, hi, p⟩
  by_cases hlt : i < n
  · refine .inr ⟨hlt, Pv (i + 1), fun H' p' => ⟨n - (i + 1), by omega, rfl, hlt, p'⟩, fun x H' y => ?_⟩
    obtain ⟨e, y⟩ := y
    subst e y
    exact hs i _ hlt p
  · have e : i = n := by omega
    subst e
    exact .inl ⟨Nat.le_refl _, hd H p⟩
/-- over a list that the block leaves as it is -/
theorem lc_list {K : PySem.W.Frag} {a : Addr} {xs : List V} {g : TG} {tt : TT} {te : TE} {vs : List Nat} {σ : St} {H1 : Hp} {D : Addr} {Qd : Hp → Prop} (Pv : Nat → Hp → Prop) (h0 : Pv 0 (upd H1 D (.lst []))) (hl : ∀ i H, i ≤ xs.length → Pv i H → SqL K H a xs)
    (hs : ∀ i x H, xs[i]? = some x → Pv i H → g x (wipe σ vs) H fun σ2 H2 => wipe σ2 vs = wipe σ vs ∧ tt σ2 H2 fun b H3 =>
      if b = true then te σ2 H3 fun y H4 => ∃ acc, H4 D = some (.lst acc) ∧ acc.length < sizeLine ∧ Pv (i + 1) (upd H4 D (.lst (acc ++ [y]))) else Pv (i + 1) H3) (hd : ∀ H, Pv xs.length H → Qd H) :
    ∃ W : Nat → Nat → Hp → Prop, (∃ m, W 0 m (upd H1 D (.lst []))) ∧ ∀ i m H, W i m H →
      ((Itl K a).stop i H ∧ Qd H) ∨ ((Itl K a).go i H ∧ ∃ Nx : Hp → Prop, (∀ H', Nx H' → ∃ m', m' < m ∧ W (i + 1) m' H') ∧ ∀ x H', (Itl K a).yld i H x H' → g x (wipe σ vs) H' fun σ2 H2 => wipe σ2 vs = wipe σ vs ∧ tt σ2 H2 fun b H3 =>
        if b = true then te σ2 H3 fun y H4 => ∃ acc, H4 D = some (.lst acc) ∧ acc.length < sizeLine ∧ Nx (upd H4 D (.lst (acc ++ [y]))) else Nx H3) := by
  refine ⟨fun i m H => m = xs.length - i ∧ i ≤ xs.length ∧ Pv i H, ⟨xs.length, by simp, Nat.zero_le _, h0⟩, ?_⟩
  rintro i m H ⟨rfl, hi, p⟩
  have q := hl i H hi p
  by_cases hlt : i < xs.length
  · refine .inr ⟨⟨xs, xs[i], q, by simp [hlt]⟩, Pv (i + 1), fun H' p' => ⟨xs.length - (i + 1), by omega, rfl, hlt, p'⟩, fun x H' y => ?_⟩
    obtain ⟨e, y⟩ := y
    subst e
    exact hs i x _ (y xs q) p
  · have e : i = xs.length := by omega
    subst e
    exact .inl ⟨⟨xs, q, Nat.le_refl _⟩, hd H p⟩
def blkC (N : List Str) (sc scope : Scope) (own : List (Str × Nat)) : Bool :=
  (match scope.kind with | .function => true | _ => false) && (scope.names.all fun y => decide (scope.names.lookup y.1 = some y.2)) && (own.all fun p => decide (N[p.2]? = some p.1)) &&
    (scope.names.all fun y => match y.2 with
      | .free => (match sc.names.lookup y.1 with | some .cell => true | some .free => true | _ => false)
      | .local => decide (y.1 ∈ own.map (·.1)) || decide (y.1 ∉ N)
      | .cell => decide (y.1 ∈ own.map (·.1)) || decide (y.1 ∉ N)
      | _ => true)
theorem blkOk_by {N : List Str} {sc scope : Scope} {own : List (Str × Nat)} (h : blkC N sc scope own = true) : BlkOk N sc scope own := by
  unfold blkC at h
  simp only [Bool.and_eq_true, List.all_eq_true, decide_eq_true_eq] at h
  obtain ⟨⟨⟨h1, h2⟩, h3⟩, h4⟩ := h
  refine ⟨?_, h2, h3, fun y hy e => ?_, fun y hy e => ?_⟩
  · split at h1
    · assumption
    · cases h1
  · have q := h4 y hy
    simp only [e] at q
    split at q <;> first | exact .inl (by assumption) | exact .inr (by assumption) | cases q
  · have q := h4 y hy
    rcases e with e | e <;> (simp only [e, Bool.or_eq_true, decide_eq_true_eq] at q; exact q)
end L2
namespace L2
open PySem PySem.Spec PyProof.Rows
section
variable {prog : Program} {w : World} {A : Around} {R : Result → Shared → Prop} {s : Shared} {elt t0 i0 t1 i1 : Expr} {ifs0 ifs1 : List Expr} {scope : Scope} {pos : Pos} {it acc : Value} {env : Env}
end
section
variable {X : Cx}
end
end L2
namespace L2
open PySem PySem.Spec PyProof.Rows
/-! ### lists of pairs as tables -/
section
variable {κ : Type} [DecidableEq κ]
end
/-! ### a tracked dict, its keys ints and texts or tuples of these -/
section
variable {P : Program} {w : World} {H : Hp} {h : Heap} {a : Addr}
end
section
variable {X : Cx} {pins : List (Addr × Obj)} {σ : St} {H : Hp} {s : Shared} {a : Addr} {y v : V} {u r : Value} {o : Option V} {A : Around} {E : Value → Shared → Prop}
end
section
variable {X : Cx} {pins : List (Addr × Obj)} {σ : St} {H : Hp} {s : Shared} {a : Addr} {kvs : List (Key × V)} {k : Key} {u : Value} {A : Around} {E : Value → Shared → Prop}
end
/-! ### readings and rules -/
section
variable {X : Cx} {o i e value : Expr} {pos pos' tpos : Pos} {td ty tv : TE}
end
/-! ### displays -/
section
variable {X : Cx} {pos : Pos}
end
/-! ### methods -/
section
variable {X : Cx} {pins : List (Addr × Obj)} {σ : St} {H : Hp} {s : Shared} {a : Addr} {y d : V} {u r : Value} {o : Option V} {A : Around} {E : Value → Shared → Prop}
end
section
variable {X : Cx} {o e f : Expr} {apos cpos : Pos} {td ty tx : TE}
end
/-! ### dict(d): a copy -/
section
variable {X : Cx} {pins : List (Addr × Obj)} {σ : St} {H : Hp} {s : Shared} {a : Addr} {kvs : List (Key × V)} {A : Around} {E : Value → Shared → Prop}
end
section
variable {X : Cx} {pins : List (Addr × Obj)} {σ : St} {H : Hp} {s : Shared} {a : Addr} {y : V} {u : Value} {A : Around} {E : Value → Shared → Prop}
end
end L2
namespace L2
open PySem PySem.Spec PyProof.Rows
section
variable {prog : Program} {w : World} {A : Around} {E : Value → Shared → Prop}
end
section
variable {X : Cx}
end
end L2
namespace L2
open PySem PySem.Spec PyProof.Rows
section
variable {X : Cx} {pins : List (Addr × Obj)} {σ : St} {H : Hp} {s : Shared} {h' : Heap}
/-- .. and one new object is laid -/
theorem Inv.turnedNew {t' : Nat} {ch : List Addr} {T : Addr} {ob : HO} (I : Inv X pins σ H s) (k : ∀ b o, b ∉ ch → s.heap.get? b = some o → h'.get? b = some o) (hf : ∀ b ∈ ch, FpOk X pins H b) (hT : s.heap.objs.size ≤ T)
    (new : ObjOk X.prog X.w (upd H T ob) h' T ob) : Inv X pins σ (upd H T ob) { s with heap := h', toks := t' } := by
  have hn : H T = none := I.hok.fresh hT
  have nit : ∀ b u, H b = some u → b ∉ ch := fun b u e z => by
    have q := (hf b z).1
    rw [q] at e; cases e
  refine I.step (g' := s.gens) (d' := s.drawn) (ch := ch) (fun b hb => ⟨(hf b hb).2.2.2.1, (hf b hb).2.1, (hf b hb).2.2.2.2.1, (hf b hb).2.2.2.2.2⟩) (fun b o _ _ hc e _ => k b o hc e) (fun b o _ _ hc e _ => ⟨o.slots, k b o hc e⟩)
    (fun b o _ e n => ?_) (fun b o hc e => ⟨o, k b o hc e⟩) (fun b xs e => ?_) (fun b o u e => ?_) (fun b ps e => ⟨#[], ?_⟩) (fun m hm => ?_) (fun b u e => ?_) I.bare
  · rw [upd_ne (Nat.ne_of_lt (Nat.lt_of_lt_of_le (Heap.lt_size e) hT))]; exact n
  · rw [upd_ne (ne_of_none e hn)]; exact e
  · rw [upd_ne (ne_of_none e hn)]; exact e
  · rw [upd_ne (ne_of_none e hn), e]; simp
  · obtain ⟨o, es, ep, ho, r⟩ := hm
    exact ⟨o, es, ep, k _ o (fun z => (hf _ z).2.1 rfl) ho, r⟩
  · by_cases hb : b = T
    · subst hb
      rw [upd_same] at e
      cases e
      exact new
    · rw [upd_ne hb] at e
      refine (I.hok b u e).stay (fun c v hc q => k c v ?_ q) (fun c q => by rw [upd_ne (ne_of_none q hn)]; exact q) fun c xs q => by rw [upd_ne (ne_of_none q hn)]; exact q
      rcases hc with z | z
      · rw [z]; exact nit b u e
      · exact nit c _ z
/-! ### locking a thing while a statement runs -/
end
section
variable {X : Cx}
/-! ### one iterator just laid -/
theorem pi_one {tg : Expr} {pins : List (Addr × Obj)} {σ : St} {H : Hp} {s : Shared} {R : It → Hp → Prop} {J : It} {tn : Nat → Heap → Prop} {tk : Nat} (I : Inv X pins σ H s) (o : Obj)
    (T : Turn X.prog X.w X.K tg J [s.heap.objs.size] s.heap.objs.size tn) (st : tn 0 (s.heap.push o)) (q : R J H) : PIE X pins σ tg R (.ref s.heap.objs.size) { s with heap := s.heap.push o, toks := tk } := by
  refine ⟨s.heap.objs.size, [s.heap.objs.size], tn, J, H, rfl, I.kept fun b ob e => Heap.get?_push_of_some _ e, T, st, fun b hb => ?_, q⟩
  have e : b = s.heap.objs.size := by simpa using hb
  subst e
  exact I.fpOk (Nat.le_refl _) (I.hok.fresh (Nat.le_refl _))
end
/-! ### range with a step -/
/-- lo, lo + c, .. (n of them) -/
def Itc (lo c : Int) (n : Nat) : It := ⟨fun i _ => i < n, fun i H x H' => H' = H ∧ x = .int (lo + (i : Nat) * c), fun i _ => n ≤ i⟩
theorem turn_rangeC {P : Program} {w : World} {K : PySem.W.Frag} {tg : Expr} (it : Addr) (lo c : Int) (n : Nat) : Turn P w K tg (Itc lo c n) [it] it (fun i h => IsRangeIter h it (lo + (i : Nat) * c) ((n : Int) - (i : Nat)) c) where
  mem := by simp
  obj := fun i h st b hb => by
    have e : b = it := by simpa using hb
    subst e
    exact ⟨_, st, fun v z => nomatch z⟩
  keep := fun i h h' st k => k it (by simp) _ st
  item := by
    intro X hP hw hK hc i pins s σ H E I hf st hg
    subst hP hw hK
    obtain ⟨f0, f1, f2, f3, f4, f5⟩ := hf it (by simp)
    have W := Walks.range (prog := X.prog) (w := X.w) (I.ok.hd hc) it lo c n
    refine W.item i s _ _ hg st fun v h' tk hv st' kk => ?_
    obtain ⟨t, rfl⟩ := hv
    have I1 : Inv X pins σ H { s with heap := h', toks := tk } := I.turned (fun b o hb e => kk b o (by simpa using hb) e) f0 f1 f3 f4 f5
    exact ⟨_, rfl, go_of (s := { s with heap := h', toks := tk }) (n := "range_iterator") st' rfl rfl (by decide) ⟨.int (lo + (i : Nat) * c), H, I1, ⟨t, rfl⟩, ⟨rfl, rfl⟩, st', fun b hb => (hf b hb).1⟩⟩
  done := by
    intro X hP hw hK hc i pins s σ H E I hf st hg
    subst hP hw hK
    obtain ⟨f0, f1, f2, f3, f4, f5⟩ := hf it (by simp)
    exact wpAny_pyNext_range_end (I.ok.hd hc) st (by have : n ≤ i := hg; omega) fun h' eb => ⟨rfl, I.turned (t' := s.toks) (fun b o hb e => eb b o hb e) f0 f1 f3 f4 f5⟩
  self := fun A i s Q E st h => wpAny_pyIter_rangeiter st h
/-- range(i, j, c): small bounds, n items -/
def RgC (i j c : Int) (n : Nat) : Prop := c ≠ 0 ∧ c.natAbs < 1073741824 ∧ Builtin.Range.small i j c = true ∧ Builtin.Range.rangeSize i j c = n
def iRng3 (ta : TA) : TI := fun σ H R => ta σ H fun vs H1 => ∃ (i j c : Int) (n : Nat), vs = [.int i, .int j, .int c] ∧ RgC i j c n ∧ R (Itc i c n) H1
section
variable {X : Cx} {tg : Expr}
theorem pi_range3 {a b c : Expr} {ta : TA} {p pos : Pos} (hg : Gl X "range") (hm : X.mg "range" = none) (ha : PA X [a, b, c] ta)
    (hs : starEach [a, b, c] X.env = (false, eval a X.env) :: starEach [b, c] X.env := by rfl) (hpl : (backTo pos (starEach [b, c] X.env)).any (·.1) = false := by rfl) :
    PI X tg (.Call (.Name "range" p) [a, b, c] [] pos) (iRng3 ta) := by
  intro pins s σ H R I h
  refine Call_ (ld_blt I hg hm boot_range (PyProof.Rows.callWith_type1 (thn (ha pos pins s σ H _ I h) fun us s1 ⟨vs, H1, I1, r1, q1⟩ => ?_) hs hpl))
  obtain ⟨i, j, k, n, e, ⟨c0, c1, c2, c3⟩, q⟩ := q1
  subst e
  cases r1 with
  | cons r rr =>
    cases rr with
    | cons r' rr =>
      cases rr with
      | cons r'' rr =>
        cases rr
        obtain ⟨t, rfl⟩ := r
        obtain ⟨t', rfl⟩ := r'
        obtain ⟨t'', rfl⟩ := r''
        refine call_range_3 c0 ?_ (.inl (PyProof.noPylong_small c1))
        refine wpAny_pyIter_range (IsRange.new ..) c2 ?_
        have I2 : Inv X pins σ H1 { s1 with heap := s1.heap.push { cls := .type "range", data := .fields #[.int i t, .int j t', .int k t''] } } := I1.kept (t' := s1.toks) fun b o e => Heap.get?_push_of_some _ e
        refine pi_one (tk := s1.toks) I2 _ (turn_rangeC _ i k n) ?_ q
        have e1 : i + ((0 : Nat) : Int) * k = i := by simp
        have e2 : (n : Int) - ((0 : Nat) : Int) = Builtin.Range.rangeSize i j k := by rw [c3]; simp
        show IsRangeIter _ _ (i + ((0 : Nat) : Int) * k) ((n : Int) - ((0 : Nat) : Int)) k
        rw [e1, e2]
        exact Heap.get?_push_size _ rfl
end
/-! ### reversed(list) -/
section
variable {X : Cx} {tg : Expr}
end
/-! ### a str -/
def Its (x : Str) : It := ⟨fun i _ => i < x.cps.size, fun i H v H' => H' = H ∧ ∃ c, x.cps[i]? = some c ∧ v = .str ⟨#[c]⟩, fun i _ => x.cps.size ≤ i⟩
theorem turn_str {P : Program} {w : World} {K : PySem.W.Frag} {tg : Expr} (it : Addr) (x : Str) (t : Tok) (ty : String) (hty : ty = "str_ascii_iterator" ∨ ty = "str_iterator") :
    Turn P w K tg (Its x) [it] it (fun i h => h.IsStrIter it ty x t i) where
  mem := by simp
  obj := fun i h st b hb => by
    have e : b = it := by simpa using hb
    subst e
    obtain ⟨o, e, c, d⟩ := st
    exact ⟨o, e, fun v z => by rw [d] at z; cases z⟩
  keep := fun i h h' st k => let ⟨o, ho, r⟩ := st; ⟨o, k it (by simp) o ho, r⟩
  item := by
    intro X hP hw hK hc i pins s σ H E I hf st hg
    subst hP hw hK
    obtain ⟨f0, f1, f2, f3, f4, f5⟩ := hf it (by simp)
    have W : Walks X.prog X.w X.A it [it] [it] x.cps.size (SignAt x) (fun i h => h.IsStrIter it ty x t i) := by
      rcases hty with e | e
      · rw [e]; exact Walks.strAscii (I.ok.hd hc) it x t
      · rw [e]; exact Walks.strWide (I.ok.hd hc) it x t
    have hno : ["enumerate", "zip", "dict_itemiterator", "dict_reverseitemiterator", "odict_iterator", "itertools.zip_longest", "itertools.pairwise"].contains ty = false := by
      rcases hty with e | e
      · rw [e]; decide
      · rw [e]; decide
    refine W.item i s _ _ hg st fun v h' tk hv st' kk => ?_
    obtain ⟨c, u, hcx, rfl⟩ := hv
    have I1 : Inv X pins σ H { s with heap := h', toks := tk } := I.turned (fun b o hb e => kk b o (by simpa using hb) e) f0 f1 f3 f4 f5
    obtain ⟨oi, e, cc, dd⟩ := id st'
    exact ⟨_, rfl, go_of (s := { s with heap := h', toks := tk }) e cc dd hno ⟨.str ⟨#[c]⟩, H, I1, ⟨u, rfl⟩, ⟨rfl, c, hcx, rfl⟩, st', fun b hb => (hf b hb).1⟩⟩
  done := by
    intro X hP hw hK hc i pins s σ H E I hf st hg
    subst hP hw hK
    obtain ⟨f0, f1, f2, f3, f4, f5⟩ := hf it (by simp)
    have hx : x.cps[i]? = none := Array.getElem?_eq_none hg
    rcases hty with e | e
    · rw [e] at st
      exact wpAny_pyNext_ascii_end (I.ok.hd hc) st hx fun h' eb => ⟨rfl, I.turned (t' := s.toks) (fun b o hb e => eb b o hb e) f0 f1 f3 f4 f5⟩
    · rw [e] at st
      exact wpAny_pyNext_wide_end (I.ok.hd hc) st hx fun h' eb => ⟨rfl, I.turned (t' := s.toks) (fun b o hb e => eb b o hb e) f0 f1 f3 f4 f5⟩
  self := fun A i s Q E st h => by
    rcases hty with e | e
    · rw [e] at st; exact wpAny_pyIter_striter_ascii st h
    · rw [e] at st; exact wpAny_pyIter_striter_wide st h
def iStr (te : TE) : TI := fun σ H R => te σ H fun v H1 => ∃ x, v = .str x ∧ R (Its x) H1
theorem pi_str {X : Cx} {tg e : Expr} {te : TE} (he : PE X e te) : PI X tg e (iStr te) := by
  intro pins s σ H R I h
  refine thn (he pins s σ H _ I h) fun v s1 ⟨y, H1, I1, r1, x, ex, q⟩ => ?_
  subst ex
  obtain ⟨t, rfl⟩ := r1
  cases ha : x.cps.all (· < 128)
  · exact wpAny_pyIter_wide ha (pi_one (tk := s1.toks) I1 _ (turn_str _ x t "str_iterator" (.inr rfl)) ⟨_, Heap.get?_push_size _ rfl, rfl, rfl⟩ q)
  · exact wpAny_pyIter_ascii ha (pi_one (tk := s1.toks) I1 _ (turn_str _ x t "str_ascii_iterator" (.inl rfl)) ⟨_, Heap.get?_push_size _ rfl, rfl, rfl⟩ q)
/-! ### a dict's keys: any dict's entries -/
section
variable {prog : Program} {w : World} {A : Around} {E : Value → Shared → Prop} {s : Shared}
end
/-! ### a locked dict -/
section
variable {X : Cx} {pins : List (Addr × Obj)} {σ : St} {H : Hp} {s : Shared} {d : Addr} {o : Obj}
end
section
variable {P : Program} {w : World} {K : PySem.W.Frag} {tg : Expr} {d : Addr} {o : Obj} {es : Array DictEntry} {ep : Nat}
end
/-! ### for k in d, d.keys(), d.values(), d.items() -/
section
variable {X : Cx} {tg e : Expr} {td : TE} {apos cpos : Pos}
end
/-! ### enumerate(list) -/
/-- the list at a as it stands at each turn, each item in a new pair -/
def Ite (K : PySem.W.Frag) (a : Addr) : It :=
  ⟨fun i H => ∃ (xs : List V) (x : V), SqL K H a xs ∧ xs[i]? = some x, fun i H v H' => ∃ T x, v = .ref T ∧ H T = none ∧ H' = upd H T (.tup [.int (i : Nat), x]) ∧ ∀ xs, SqL K H a xs → xs[i]? = some x, fun i H => ∃ xs : List V, SqL K H a xs ∧ xs.length ≤ i⟩
theorem turn_enum {P : Program} {w : World} {K : PySem.W.Frag} {elts : List Expr} {kk : Nat} {tpos : Pos} (a e it : Addr) :
    Turn P w K (.Tuple elts kk tpos) (Ite K a) [e, it] e (fun i h => (∃ old, IsEnum h e it ((i : Nat) : Int) old) ∧ h.IsListIter it a i ∧ e ≠ it) where
  mem := by simp
  obj := fun i h st b hb => by
    obtain ⟨⟨old, he⟩, ⟨o, ho, hc, hd⟩, _⟩ := st
    have e' : b = e ∨ b = it := by simpa using hb
    rcases e' with z | z
    · rw [z]; exact ⟨_, he, fun v q => nomatch q⟩
    · rw [z]; exact ⟨o, ho, fun v q => by rw [hd] at q; cases q⟩
  keep := fun i h h' st k => let ⟨⟨old, he⟩, hi, hne⟩ := st; ⟨⟨old, k e (by simp) _ he⟩, hi.at fun o q => k it (by simp) o q, hne⟩
  item := by
    intro X hP hw hK hc i pins s σ H E I hf st hg
    subst hP hw hK
    obtain ⟨⟨old, he⟩, hit, hne⟩ := st
    obtain ⟨xs, x, hq, hx⟩ := hg
    obtain ⟨its, rv, p, hz⟩ := I.list hq
    obtain ⟨u, hu, ru⟩ := rv.get hx
    have hel : e < s.heap.objs.size := Heap.lt_size he
    have hil : it < s.heap.objs.size := by obtain ⟨_, q, _⟩ := hit; exact Heap.lt_size q
    refine wpAny_pyNext_enum_item he hit p.isList (x := u) (by simpa using hu) hne fun h' ho hit' hT hsz hk => ?_
    refine ⟨_, rfl, wpAny_letOwnedTupleGo_enum (s := { s with heap := h', toks := s.toks + 1 }) ho fun h'' he' sb => ?_⟩
    have hT2 : h''.get? s.heap.objs.size = some { cls := .type "tuple", data := .seq #[.int i s.toks, u] } := (sb.2 _ (Nat.ne_of_gt hel)).trans hT
    have new : ObjOk X.prog X.w (upd H s.heap.objs.size (.tup [.int (i : Nat), x])) h'' s.heap.objs.size (.tup [.int (i : Nat), x]) :=
      ⟨by show 2 ≤ sizeLine; decide, [.int i s.toks, u], .cons ⟨_, rfl⟩ (.cons ru .nil), ⟨_, hT2, rfl, _, rfl⟩⟩
    have I1 : Inv X pins σ (upd H s.heap.objs.size (.tup [.int (i : Nat), x])) { s with heap := h'', toks := s.toks + 1 } :=
      I.turnedNew (ch := [e, it]) (fun b ob hb q => (sb.2 b (fun z => hb (by simp [z]))).trans (hk b ob (fun z => hb (by simp [z])) (fun z => hb (by simp [z])) q)) hf (Nat.le_refl _) new
    refine ⟨.ref s.heap.objs.size, _, I1, rfl, ⟨_, x, rfl, I.hok.fresh (Nat.le_refl _), rfl, fun ys hy => by rw [I.list_inj hy hq]; exact hx⟩, ⟨⟨u, ?_⟩, hit'.at fun o q => (sb.2 it (Ne.symm hne)).trans q, hne⟩, fun b hb => ?_⟩
    · have e1 : ((i + 1 : Nat) : Int) = (i : Int) + 1 := by omega
      rw [e1]; exact he'
    · have hb' : b < s.heap.objs.size := by
        have e' : b = e ∨ b = it := by simpa using hb
        rcases e' with z | z
        · rw [z]; exact hel
        · rw [z]; exact hil
      rw [upd_ne (Nat.ne_of_lt hb')]
      exact (hf b hb).1
  done := by
    intro X hP hw hK hc i pins s σ H E I hf st hg
    subst hP hw hK
    obtain ⟨⟨old, he⟩, hit, hne⟩ := st
    obtain ⟨xs, hq, hx⟩ := hg
    obtain ⟨its, rv, p, hz⟩ := I.list hq
    obtain ⟨f0, f1, f2, f3, f4, f5⟩ := hf it (by simp)
    have hl := rv.length
    exact wpAny_pyNext_enum_end (I.ok.hd hc) he hit p.isList (by simp; omega) fun h' eb => ⟨rfl, I.turned (t' := s.toks) (fun b o hb q => eb b o hb q) f0 f1 f3 f4 f5⟩
  self := fun A i s Q E st h => let ⟨⟨_, he⟩, _⟩ := st; wpAny_pyIter_enum he h
def iEnum (K : PySem.W.Frag) (ta : TA) : TI := fun σ H R => ta σ H fun vs H1 => ∃ a xs, vs = [.ref a] ∧ SqL K H1 a xs ∧ R (Ite K a) H1
theorem pi_enum {X : Cx} {e : Expr} {ta : TA} {p pos tpos : Pos} {elts : List Expr} {kk : Nat} (hg : Gl X "enumerate") (hm : X.mg "enumerate" = none) (ha : PA X [e] ta) (hs : starEach [e] X.env = [(false, eval e X.env)] := by rfl) :
    PI X (.Tuple elts kk tpos) (.Call (.Name "enumerate" p) [e] [] pos) (iEnum X.K ta) := by
  intro pins s σ H R I h
  refine Call_ (ld_blt I hg hm boot_enumerate (PyProof.Rows.callWith_type1 (thn (ha pos pins s σ H _ I h) fun us s1 ⟨vs, H1, I1, r1, q1⟩ => ?_) hs rfl))
  obtain ⟨a, xs, ex, hq, q⟩ := q1
  subst ex
  cases r1 with
  | cons r rr =>
    cases rr
    cases r
    obtain ⟨its, rv, p', hz⟩ := I1.list hq
    refine call_enumerate_list p'.isList fun h' he hit hsz hk => wpAny_pyIter_enum he ?_
    have I2 : Inv X pins σ H1 { s1 with heap := h' } := I1.kept (t' := s1.toks) hk
    refine ⟨s1.heap.objs.size + 1, [s1.heap.objs.size + 1, s1.heap.objs.size], _, _, H1, rfl, I2, turn_enum a (s1.heap.objs.size + 1) s1.heap.objs.size, ⟨⟨.none, he⟩, hit, Nat.succ_ne_self _⟩, fun b hb => ?_, q⟩
    have e' : b = s1.heap.objs.size + 1 ∨ b = s1.heap.objs.size := by simpa using hb
    have hle : s1.heap.objs.size ≤ b := by
      rcases e' with z | z
      · rw [z]; exact Nat.le_add_right _ _
      · rw [z]; exact Nat.le_refl _
    exact I1.fpOk hle (I1.hok.fresh hle)
/-! ### zip(list, list) -/
end L2
section 
namespace Bits
open PySem PyProof.Rows
end Bits
end 
section 
namespace TL
open PySem PySem.Builtin PySem.Builtin.Str PySem.StrLaws
/-! ### the list functions -/
/-! ### the model's split and partition are these -/
/-! ### computing spl and par -/
/-! ### digits -/
/-! ### words: x.split() -/
end TL
end 
namespace L2
open PySem PySem.Spec PyProof.Rows
theorem strs_of_vals : ∀ {ys : List Str} {us : List Value}, Vals (ys.map V.str) us → StrsAre us ys
  | [], _, .nil => .nil
  | y :: ys, _, .cons r t => by
    obtain ⟨k, rfl⟩ := r
    exact .cons y k (strs_of_vals t)
section
variable {X : Cx} {pins : List (Addr × Obj)} {σ : St} {H : Hp} {s : Shared} {Q : VK}
end
section
variable {X : Cx}
/-- sep.join(a list | a tuple of texts) -/
theorem mt_join : MtR X "str.join" (fun x xs H Q => ∃ a p, ∃ ys : List Str, x = .str a ∧ xs = [.ref p] ∧ (SqL X.K H p (ys.map V.str) ∨ SqT X.K H p (ys.map V.str)) ∧
    (ys.map (·.length)).sum + ys.length * a.length ≤ 16777216 ∧ Q (.str (Txt.join a ys)) H) := by
  intro pins s σ H x xs v us Q I rx rs h
  obtain ⟨a, p, ys, rfl, rfl, hp, hz, h⟩ := h
  obtain ⟨t, rfl⟩ := rx
  cases rs with
  | cons r1 rs =>
    cases rs
    cases r1
    rcases hp with hp | hp
    · obtain ⟨its, r, ⟨o, n, ho, hc, _, hd⟩, _⟩ := I.list hp
      exact PyProof.Rows.join_list (items := its.toArray) ⟨o, ho, hc, n, hd⟩ (by rw [List.toList_toArray]; exact strs_of_vals r) hz fun t' k => ⟨.str _, H, I.tok k, ⟨t', rfl⟩, h⟩
    · obtain ⟨its, r, ht, _⟩ := I.tuple hp
      exact PyProof.Rows.join_tuple (items := its.toArray) ht (by rw [List.toList_toArray]; exact strs_of_vals r) hz fun t' k => ⟨.str _, H, I.tok k, ⟨t', rfl⟩, h⟩
/-! ### of a text alone -/
/-! ### of a text and a text -/
end
section
variable {X : Cx} {o e : Expr} {to te : TE}
def tM1 (r : V → List V → Hp → VK → Prop) (to te : TE) : TE := fun σ H Q => to σ H fun x H1 => (∃ a, x = .str a) ∧ te σ H1 fun y H2 => r x [y] H2 Q
theorem pe_m1 {id : String} {name : Str} {apos pos : Pos} {r : V → List V → Hp → VK → Prop} (slot : Slot "str" name id) (ty : typeOf (.builtin id) = pure (.type "method_descriptor")) (rule : MtR X id r) (ho : PE X o to) (he : PE X e te)
    (hs : starEach [e] X.env = [(false, eval e X.env)] := by rfl) (hbase : attributeBase o name X.env (eval o X.env) = eval o X.env := by rfl) (hline : (apos.endLine == pos.line) = true := by rfl) :
    PE X (.Call (.Attribute o name apos) [e] [] pos) (tM1 r to te) := by
  intro pins s σ H Q I h
  refine PySem.Call_method1 hbase hs hline (thn (ho pins s σ H _ I h) fun v s1 ⟨x, H1, I1, r1, q1⟩ => ?_)
  obtain ⟨⟨a, rfl⟩, q1⟩ := q1
  obtain ⟨t, rfl⟩ := _root_.id r1
  refine ⟨"str", _, F.plainAttrs_str, slot, ty, typeIs_str _ _ _, (fun _ e => nomatch e), Calls.callWith_builtin rfl (Calls.evalArgs_plain (Calls.spliced_cons ?_))⟩
  exact thn (he pins s1 σ H1 _ I1 q1) fun u s2 ⟨y, H2, I2, r2, q2⟩ => Calls.spliced_nil (rule pins s2 σ H2 _ [y] _ [u] Q I2 r1 (.cons r2 .nil) q2)
theorem pe_join {apos pos : Pos} (ho : PE X o to) (he : PE X e te) (hs : starEach [e] X.env = [(false, eval e X.env)] := by rfl) (hbase : attributeBase o "join" X.env (eval o X.env) = eval o X.env := by rfl) (hline : (apos.endLine == pos.line) = true := by rfl) :
    PE X (.Call (.Attribute o "join" apos) [e] [] pos) (tM1 (fun x xs H Q => ∃ a p, ∃ ys : List Str, x = .str a ∧ xs = [.ref p] ∧ (SqL X.K H p (ys.map V.str) ∨ SqT X.K H p (ys.map V.str)) ∧
      (ys.map (·.length)).sum + ys.length * a.length ≤ 16777216 ∧ Q (.str (Txt.join a ys)) H) to te) :=
  pe_m1 F.slot_str_join F.type_str_join mt_join ho he hs hbase hline
end
end L2
namespace L2
open PySem PySem.Spec PyProof.Rows
section
variable {X : Cx}
end
/-! ### slices of a text -/
end L2
namespace Att
open PySem PySem.W PySem.Calls PyProof.Rows
/-! ### the script -/
/-! ### the attachment: holds_open's last premise (the goal 'hc' behind k_head) from a wpAny of the law's body -/
/-! ### rules over ANY heap (no ledger) from facts about the written part K: the library's own take a ledger (News) for what they write -/
section
variable {prog : Program} {w : World} {A : Around} {E : Value → Shared → Prop} {s : Shared} {K : Frag}
/-! the whole heap as the ledger: makes every rule that writes through a ledger a rule over any heap -/
end
end Att
namespace L2
open PySem PySem.Spec PyProof.Rows
end L2
namespace L2
open PySem PySem.Spec PyProof.Rows
end L2
/- THE LAST THEOREM (shape; LID, My.* are yours):
   My.Adr: a structure of the addresses that your layer names (classes, functions); My.Txt K t: a structure (Prop) of the equations over K;
   My.txt_mk : {K} {implicit addresses ..} (e1 : nsIn K mainGlobals "law" = some (some (.ref f))) (e2 : K.lookup f = some ⟨oc, od, .func (fnOf "law" "law" params body scope dV kV doc pm an cdv ct), sl⟩) (e3 : codeIn K cdv "law" = true) .. : ∃ t, My.Txt K t
set_option maxRecDepth 100000 in
set_option maxHeartbeats 0 in
theorem PySem.Challenge.cw_LID_holds : PySem.Challenge.rw_LID.Holds := by
  w_on; o_law; k_head; (case hw => w_witness2)
  k_fill
  refine L2.walk_of (l := PySem.Challenge.rw_LID) (n := 63) (k := 40) (x := "script") (CX := fun w => ..) (sp := fun _ => My.sp_law) rfl (by decide) rfl ⟨rfl, by decide, by decide⟩ (fun w h Y => PySem.W.kIn_of Y) ?F ?S ?C
  case F =>
    intro w mg fa h KX G hmg
    have T : ∃ t, My.Txt (L2.KOf KX) t := by
      dsimp only [L2.KOf]                          -- K must stand as «<heap const> w.params» for k_is
      refine' My.txt_mk ?e1 ?e2 ?e3 ..
      (case e1 => PySem.W.k_is)                    -- in the order: a name -> its address -> its object -> its parts
      (case e2 => PySem.W.k_is)
      ..
    obtain ⟨t, T⟩ := T
    have e0 := hmg.symm.trans (PySem.W.mg_of KX G T.law)
    cases e0                                       -- fa is the law's own address
    exact ⟨_, fun s u => .of_eq rfl, fun base kb nb => My.law_fn T kb nb⟩     -- if «.of_eq rfl» comes too early: refine' ⟨_, ?b, fun base kb nb => My.law_fn T kb nb⟩; exact fun s u => .of_eq rfl
  case S => exact fun w H a ns hl hO hS => ..
  case C => exact ..
(the tactic k_is has no namespace: write k_is) -/
/-! SHORT WORDS over the layer: a def of the text, its body, what a loop and a test want. -/
namespace L2
open PySem PySem.Spec PyProof.Rows
/-! ### the text by places -/
/-- the j-th statement of a class's body -/
def inClass (s : Stmt) (j : Nat) : Stmt := match s with
  | .ClassDef _ _ _ body _ _ _ _ _ _ _ => body.getD j (.Pass ⟨0, 0, 0, 0⟩)
  | _ => .Pass ⟨0, 0, 0, 0⟩
def defArgs (s : Stmt) : Arguments := match s with
  | .FunctionDef _ a _ _ _ _ _ _ _ _ => a
  | _ => { posonlyargs := [], args := [], vararg := none, kwonlyargs := [], kw_defaults := [], kwarg := none, defaults := [] }
def defBody (s : Stmt) : List Stmt := match s with
  | .FunctionDef _ _ b _ _ _ _ _ _ _ => b
  | _ => []
def defScope (s : Stmt) : Scope := match s with
  | .FunctionDef _ _ _ _ _ _ sc _ _ _ => sc
  | _ => { kind := .function, names := [], isGenerator := false, isCoroutine := false }
/-! ### no exception leaves a def -/
abbrev CX0 : CXT := fun _ _ _ _ _ _ => False
abbrev E0 : XK := fun _ _ _ => False
theorem pass0 {X : Cx} : Passes CX0 X E0 := fun _ _ _ _ _ _ _ h => h.elim
/-! ### a def (or method) of the text as it stands behind the top -/
structure Fun (K : PySem.W.Frag) (x qual : Str) (st : Stmt) (f : Addr) (fd : FuncData) : Prop where
  ex : ∃ (oc : Value) (od : Option Addr) (kV doc pm : Value) (an : Option Addr) (cdv ct : Value) (osl : Array (Option Value)),
    fd = PySem.W.fnOf x qual (defArgs st) (defBody st) (defScope st) .none kV doc pm an cdv ct ∧ K.lookup f = some ⟨oc, od, .func fd, osl⟩ ∧ PySem.W.codeIn K cdv qual = true
  kp : PySem.W.keepIn K (.ref f) = true
section
variable {P : Program} {w : World} {K : PySem.W.Frag} {mg : Str → Option Value} {base : Heap}
/-- THE RULE for a def: its body as a term of rules, and the reading of that term -/
theorem Fun.ok {x qual : Str} {st : Stmt} {f : Addr} {fd : FuncData} {N ps : List Str} {k : Nat} {sp : Sp} (F : Fun K x qual st f fd) (S : FnScope N ps (defScope st)) (len : ∀ vs H Q E, sp vs H Q E → vs.length = ps.length)
    (hbody : ∀ (cdv : Value) (A : Around) (outer : List Env) (s : Shared) (H : Hp) (vs : List V) (Q : VK) (E : XK), Room k (A.deeper (envOfC qual (defScope st) s.heap.objs.size f cdv)) → sp vs H Q E →
      ∃ t, PSs (cxOf CX0 P w K mg base N qual (defScope st) f cdv A outer s H E).nox (defBody st) t ∧ t { nx := fun _ H' => Q .non H', rt := Q } (start N vs) H) : FnOk P w K mg base CX0 (k + 1) f fd ps sp := by
  obtain ⟨oc, od, kV, doc, pm, an, cdv, ct, osl, rfl, lk, hcd⟩ := F.ex
  refine fn_of lk hcd S len fun A outer s H vs Q E hr hsp => ?_
  obtain ⟨t, h, q⟩ := hbody cdv A outer s H vs Q E hr hsp
  exact ⟨t, h.nox, q⟩
/-- how its arguments bind (no defaults): h is «fun _ _ _ _ _ _ us hl => match us, hl with | [_, _], _ => rfl», one _ a parameter -/
theorem Fun.binds {x qual : Str} {st : Stmt} {f : Addr} {fd : FuncData} {ps : List Str} (F : Fun K x qual st f fd)
    (h : ∀ (kV doc pm : Value) (an : Option Addr) (cdv ct : Value) (us : List Value), us.length = ps.length → bindArgs (PySem.W.fnOf x qual (defArgs st) (defBody st) (defScope st) .none kV doc pm an cdv ct) ⟨us, []⟩ = pure (ps.zip us)) : Binds K fd ps [] := by
  obtain ⟨oc, od, kV, doc, pm, an, cdv, ct, osl, rfl, lk, hcd⟩ := F.ex
  exact .all (h kV doc pm an cdv ct)
theorem fun_mk {x qual : Str} {st : Stmt} {f : Addr} {oc : Value} {od an : Option Addr} {osl : Array (Option Value)} {kV doc pm cdv ct : Value} (l : K.lookup f = some ⟨oc, od, .func (PySem.W.fnOf x qual (defArgs st) (defBody st) (defScope st) .none kV doc pm an cdv ct), osl⟩)
    (c : PySem.W.codeIn K cdv qual = true) (k : PySem.W.keepIn K (.ref f) = true) : Fun K x qual st f (PySem.W.fnOf x qual (defArgs st) (defBody st) (defScope st) .none kV doc pm an cdv ct) := ⟨⟨oc, od, kV, doc, pm, an, cdv, ct, osl, rfl, l, c⟩, k⟩
end
/-! ### expressions in short: the name that stands in the i-th slot -/
section
variable {X : Cx}
theorem pv (i : Nat) {x : Str} {pos : Pos} (hN : X.N[i]? = some x := by rfl) (hv : Vis X.env.scope x := by first | exact Or.inl rfl | exact Or.inr (Or.inl rfl) | exact Or.inr (Or.inr rfl)) (hd : (x == ("__debug__" : Str)) = false := by decide)
    (hcd : (x == ("__classdict__" : Str)) = false := by decide) : PE X (.Name x pos) (tVar i) := pe_var hN hv hd hcd
end
/-! ### tests -/
theorem iteF {A B : Prop} (h : B) : if false = true then A else B := by
  rw [if_neg Bool.false_ne_true]
  exact h
theorem iteT {A B : Prop} (h : A) : if true = true then A else B := by
  rw [if_pos rfl]
  exact h
theorem ite2 {c A B : Prop} [Decidable c] (h1 : c → A) (h2 : ¬ c → B) : if c then A else B := by
  by_cases h : c
  · rw [if_pos h]
    exact h1 h
  · rw [if_neg h]
    exact h2 h
/-! ### heaps -/
/-- all that was tracked is as it was -/
def Same (H H' : Hp) : Prop := ∀ b o, H b = some o → H' b = some o
theorem Same.refl (H : Hp) : Same H H := fun _ _ h => h
theorem Same.trans {H H1 H2 : Hp} (a : Same H H1) (b : Same H1 H2) : Same H H2 := fun c o h => b c o (a c o h)
theorem Same.free {H H' : Hp} (e : Same H H') {l : Addr} (h : H' l = Option.none) : H l = Option.none := by
  cases q : H l with
  | none => rfl
  | some o =>
    rw [e l o q] at h
    cases h
theorem Same.seq {K : PySem.W.Frag} {H H' : Hp} {a : Addr} {xs : List V} (e : Same H H') (h : SqL K H a xs) : SqL K H' a xs := by
  rcases h with (h | ⟨o, h⟩) | h
  · exact .inl (.inl (e _ _ h))
  · exact .inl (.inr ⟨o, e _ _ h⟩)
  · exact .inr h
/-! ### a dict's pairs: keys that differ -/
section
variable {κ : Type} [DecidableEq κ]
theorem nd_snoc : ∀ {l : List κ} {k : κ}, l.Nodup → ¬ k ∈ l → (l ++ [k]).Nodup
  | [], k, _, _ => by simp
  | a :: r, k, h, hk => by
    obtain ⟨h1, h2⟩ := List.nodup_cons.mp h
    show (a :: (r ++ [k])).Nodup
    refine List.nodup_cons.mpr ⟨fun m => ?_, nd_snoc h2 fun m => hk (List.mem_cons.mpr (Or.inr m))⟩
    rcases List.mem_append.mp m with q | q
    · exact h1 q
    · exact hk (List.mem_cons.mpr (Or.inl (List.mem_singleton.mp q).symm))
end
/-! ### lists -/
end L2
end
section
set_option Elab.async false
set_option linter.all false
set_option maxRecDepth 100000
namespace L2
open PySem PySem.Spec PyProof.Rows
open PySem.W (WData Codec OpenSpec Well WellAll ReadsW ReadsAllW)
/-! ### an answer as data -/
mutual
/-- x stands for the datum d, lists and tuples all the way -/
inductive Dw (K : PySem.W.Frag) (H : Hp) : V → WData → Prop
  | non : Dw K H .non .none
  | bl (b : Bool) : Dw K H (.bl b) (.bool b)
  | int (i : Int) : Dw K H (.int i) (.int i)
  | str (x : Str) : Dw K H (.str x) (.str x)
  | byt (b : Array UInt8) : Dw K H (.byt b) (.bytes b.toList)
  | lst {a : Addr} {xs : List V} {ds : List WData} : SqL K H a xs → DwAll K H xs ds → Dw K H (.ref a) (.list ds)
  | tup {a : Addr} {xs : List V} {ds : List WData} : SqT K H a xs → DwAll K H xs ds → Dw K H (.ref a) (.tuple ds)
inductive DwAll (K : PySem.W.Frag) (H : Hp) : List V → List WData → Prop
  | nil : DwAll K H [] []
  | cons {v : V} {vs : List V} {d : WData} {ds : List WData} : Dw K H v d → DwAll K H vs ds → DwAll K H (v :: vs) (d :: ds)
end
theorem dw_ints {K : PySem.W.Frag} {H : Hp} : ∀ ns : List Int, DwAll K H (ns.map V.int) (ns.map WData.int)
  | [] => .nil
  | n :: r => .cons (.int n) (dw_ints r)
theorem ints_dw {K : PySem.W.Frag} {H : Hp} : ∀ (ns : List Int) (xs : List V), DwAll K H xs (ns.map WData.int) → xs = ns.map V.int
  | [], xs, h => by
    cases h
    rfl
  | n :: r, xs, h => by
    cases h with
    | cons h1 h2 =>
      cases h1
      rw [ints_dw r _ h2] <;> rfl
section
variable {P : Program} {w : World} {K : PySem.W.Frag} {H : Hp} {h : Heap} {R : PySem.W.WRecords} {cl : Str → Option Addr}
theorem sqL_at {a : Addr} {xs : List V} (hok : HOk P w H h) (KX : K.In h) (q : SqL K H a xs) : ∃ (its : List Value) (o : Obj) (n : Nat), Vals xs its ∧ h.get? a = some o ∧ o.cls = .type "list" ∧ o.data = .seq its.toArray n := by
  rcases q with q | ⟨o, its, n, e, hc, _, hd, _, hv⟩
  · obtain ⟨_, its, n, hv, e⟩ := (show ObjOk P w H h a (.lst xs) from q.ok hok)
    exact ⟨its, _, n, hv, e, rfl, rfl⟩
  · exact ⟨its.toList, o, n, hv, KX _ _ e, hc, by simp [hd]⟩
theorem sqT_at {a : Addr} {xs : List V} (hok : HOk P w H h) (KX : K.In h) (q : SqT K H a xs) : ∃ (its : List Value) (o : Obj) (n : Nat), Vals xs its ∧ h.get? a = some o ∧ o.cls = .type "tuple" ∧ o.data = .seq its.toArray n := by
  rcases q with q | ⟨o, its, n, e, hc, hd, _, hv⟩
  · obtain ⟨_, its, hv, o, e, hc, n, hd⟩ := (show ObjOk P w H h a (.tup xs) from q.ok hok)
    exact ⟨its, o, n, hv, e, hc, hd⟩
  · exact ⟨its.toList, o, n, hv, KX _ _ e, hc, by simp [hd]⟩
mutual
theorem Dw.reads (hok : HOk P w H h) (KX : K.In h) : ∀ (d : WData) (v : V) (u : Value), Dw K H v d → RelV v u → ∃ as, ReadsW R cl h u d as
  | .none, _, _, x, r => by
    cases x
    cases r
    exact ⟨_, ReadsW.none⟩
  | .bool b, _, _, x, r => by
    cases x
    cases r
    exact ⟨_, ReadsW.bool b⟩
  | .int i, _, _, x, r => by
    cases x
    obtain ⟨t, rfl⟩ := r
    exact ⟨_, ReadsW.int i t⟩
  | .str s, _, _, x, r => by
    cases x
    obtain ⟨t, rfl⟩ := r
    exact ⟨_, ReadsW.str s t⟩
  | .bytes b, _, _, x, r => by
    cases x
    obtain ⟨t, rfl⟩ := r
    exact ⟨_, ReadsW.bytes _ t⟩
  | .list ds, _, _, x, r => by
    cases x with
    | lst hs ha =>
      cases r
      obtain ⟨its, o, n, rv, ho, hc, hd⟩ := sqL_at hok KX hs
      obtain ⟨as, hr⟩ := Dw.readsAll hok KX ds _ its ha rv
      exact ⟨_, ReadsW.list ho hc hd hr⟩
  | .tuple ds, _, _, x, r => by
    cases x with
    | tup hs ha =>
      cases r
      obtain ⟨its, o, n, rv, ho, hc, hd⟩ := sqT_at hok KX hs
      obtain ⟨as, hr⟩ := Dw.readsAll hok KX ds _ its ha rv
      exact ⟨_, ReadsW.tuple ho hc hd hr⟩
  | .float _, _, _, x, _ => by cases x
  | .dict _, _, _, x, _ => by cases x
  | .bytearray _, _, _, x, _ => by cases x
  | .set _, _, _, x, _ => by cases x
  | .frozenset _, _, _, x, _ => by cases x
  | .obj _ _, _, _, x, _ => by cases x
theorem Dw.readsAll (hok : HOk P w H h) (KX : K.In h) : ∀ (ds : List WData) (vs : List V) (us : List Value), DwAll K H vs ds → Vals vs us → ∃ as, ReadsAllW R cl h us ds as
  | [], _, _, x, r => by
    cases x
    cases r
    exact ⟨_, ReadsAllW.nil⟩
  | d :: ds, _, _, x, r => by
    cases x with
    | cons h1 h2 =>
      cases r with
      | cons r1 r2 =>
        obtain ⟨as, q1⟩ := Dw.reads hok KX d _ _ h1 r1
        obtain ⟨bs, q2⟩ := Dw.readsAll hok KX ds _ _ h2 r2
        exact ⟨_, ReadsAllW.cons q1 q2⟩
end
end
/-! ### the arguments -/
mutual
/-- data that a codec tells -/
def plW : WData → Bool
  | .none => true
  | .bool _ => true
  | .int _ => true
  | .str _ => true
  | .bytes _ => true
  | .list xs => plWs xs
  | .tuple xs => plWs xs
  | _ => false
def plWs : List WData → Bool
  | [] => true
  | x :: r => plW x && plWs r
end
theorem plWs_map {α : Type} {f : α → WData} (h : ∀ a, plW (f a) = true) : ∀ l : List α, plWs (l.map f) = true
  | [] => rfl
  | x :: r => by
    show (plW (f x) && plWs (r.map f)) = true
    rw [h x, plWs_map h r] <;> rfl
theorem pl_enc : ∀ (c : Codec) (a : c.denote), plW (c.enc a) = true
  | .unit, _ => rfl
  | .bool, _ => rfl
  | .int _ _, _ => rfl
  | .nat _ _, _ => rfl
  | .u8, _ => rfl
  | .bytes _ _, _ => rfl
  | .text _ _ _ _, _ => rfl
  | .list _ _ c, a => plWs_map (fun x => pl_enc c x) a
  | .pair c d, a => by
    show (plW (c.enc a.1) && (plW (d.enc a.2) && true)) = true
    rw [pl_enc c a.1, pl_enc d a.2] <;> rfl
  | .triple c d e, a => by
    show (plW (c.enc a.1) && (plW (d.enc a.2.1) && (plW (e.enc a.2.2) && true))) = true
    rw [pl_enc c a.1, pl_enc d a.2.1, pl_enc e a.2.2] <;> rfl
  | .option c, none => rfl
  | .option c, some x => pl_enc c x
theorem pl_encAll : ∀ (cs : List Codec) (a : Codec.denoteAll cs), plWs (Codec.encAll cs a) = true
  | [], _ => rfl
  | c :: cs, a => by
    show (plW (c.enc a.1) && plWs (Codec.encAll cs a.2)) = true
    rw [pl_enc c a.1, pl_encAll cs a.2] <;> rfl
theorem weight_mem : ∀ {xs : List WData} {d : WData}, d ∈ xs → d.weight ≤ WData.weightAll xs
  | [], d, h => absurd h (by simp)
  | x :: r, d, h => by
    show d.weight ≤ x.weight + 1 + WData.weightAll r
    rcases List.mem_cons.mp h with e | m
    · rw [e]
      omega
    · have z := weight_mem m
      omega
def toV : Value → V
  | .none => .non
  | .bool b => .bl b
  | .int i _ => .int i
  | .str x _ => .str x
  | .bytes b _ => .byt b
  | .ref a => .ref a
  | _ => .non
/-- a value of the arguments, its objects among A -/
def OkU (A : List Addr) : Value → Prop
  | .none => True
  | .bool _ => True
  | .int _ _ => True
  | .str _ _ => True
  | .bytes _ _ => True
  | .ref a => a ∈ A
  | _ => False
theorem OkU.mono {A B : List Addr} (h : ∀ a ∈ A, a ∈ B) : ∀ {u : Value}, OkU A u → OkU B u := fun {u} x => by
  cases u with
  | ref a => exact h a x
  | none => trivial
  | bool b => trivial
  | int i t => trivial
  | str s t => trivial
  | bytes b t => trivial
  | _ => exact False.elim x
theorem relV_toV {A : List Addr} {u : Value} (x : OkU A u) : RelV (toV u) u := by
  cases u with
  | ref a => rfl
  | none => rfl
  | bool b => rfl
  | int i t => exact ⟨t, rfl⟩
  | str s t => exact ⟨t, rfl⟩
  | bytes b t => exact ⟨t, rfl⟩
  | _ => exact False.elim x
theorem vals_toV {A : List Addr} : ∀ {vs : List Value}, (∀ u ∈ vs, OkU A u) → Vals (vs.map toV) vs
  | [], _ => .nil
  | u :: r, h => .cons (relV_toV (h u (List.mem_cons_self ..))) (vals_toV fun x hx => h x (List.mem_cons_of_mem _ hx))
/-- an object of the arguments -/
def ArgOb (h : Heap) (A : List Addr) (a : Addr) : Prop := ∃ vs : List Value, vs.length ≤ sizeLine ∧ (∀ u ∈ vs, OkU A u) ∧
  (h.get? a = some { cls := .type "list", data := .seq vs.toArray } ∨ h.get? a = some { cls := .type "tuple", data := .seq vs.toArray })
theorem ArgOb.mono {h : Heap} {A B : List Addr} {a : Addr} (k : ∀ a ∈ A, a ∈ B) (x : ArgOb h A a) : ArgOb h B a := by
  obtain ⟨vs, h1, h2, h3⟩ := x
  exact ⟨vs, h1, fun u hu => (h2 u hu).mono k, h3⟩
theorem wellAll_len {P : Params} {h : Heap} : ∀ {vs : List Value} {ds : List WData}, WellAll P h vs ds → vs.length = ds.length
  | _, _, .nil => rfl
  | _, _, .cons _ b => by
    show _ + 1 = _ + 1
    rw [wellAll_len b]
theorem well_list {P : Params} {h : Heap} {v : Value} {ds : List WData} (x : Well P h v (.list ds)) : ∃ (a : Addr) (vs : List Value), v = .ref a ∧ h.get? a = some { cls := .type "list", data := .seq vs.toArray } ∧ WellAll P h vs ds := by
  cases x with
  | list ho hall => exact ⟨_, _, rfl, ho, hall⟩
theorem well_tuple {P : Params} {h : Heap} {v : Value} {ds : List WData} (x : Well P h v (.tuple ds)) : ∃ (a : Addr) (vs : List Value), v = .ref a ∧ h.get? a = some { cls := .type "tuple", data := .seq vs.toArray } ∧ WellAll P h vs ds := by
  cases x with
  | tuple ho hall => exact ⟨_, _, rfl, ho, hall⟩
theorem well_cons {P : Params} {h : Heap} {us : List Value} {d : WData} {ds : List WData} (x : WellAll P h us (d :: ds)) : ∃ (v : Value) (vs : List Value), us = v :: vs ∧ Well P h v d ∧ WellAll P h vs ds := by
  cases x with
  | cons a b => exact ⟨_, _, rfl, a, b⟩
theorem line_of {n : Nat} (h : n ≤ 1048576) : n ≤ sizeLine := Nat.le_trans h (by decide)
section
variable {P : Params} {h : Heap}
mutual
theorem area_one : ∀ (d : WData) (v : Value), Well P h v d → plW d = true → d.weight ≤ 1048576 → ∃ A : List Addr, OkU A v ∧ ∀ a ∈ A, ArgOb h A a
  | .none, _, x, _, _ => by
    cases x
    exact ⟨[], trivial, fun a m => absurd m (by simp)⟩
  | .bool b, _, x, _, _ => by
    cases x
    exact ⟨[], trivial, fun a m => absurd m (by simp)⟩
  | .int i, _, x, _, _ => by
    cases x
    exact ⟨[], trivial, fun a m => absurd m (by simp)⟩
  | .str s, _, x, _, _ => by
    cases x
    exact ⟨[], trivial, fun a m => absurd m (by simp)⟩
  | .bytes b, _, x, _, _ => by
    cases x
    exact ⟨[], trivial, fun a m => absurd m (by simp)⟩
  | .list ds, _, x, p, z => by
    obtain ⟨a, vs, rfl, ho, hall⟩ := well_list x
    have z2 : WData.weightAll ds ≤ 1048576 := z
    obtain ⟨A, h1, h2⟩ := area_all ds _ hall p fun d hd => Nat.le_trans (weight_mem hd) z2
    have k : ∀ b ∈ A, b ∈ a :: A := fun b hb => List.mem_cons_of_mem _ hb
    refine ⟨a :: A, List.mem_cons_self .., fun b hb => ?_⟩
    rcases List.mem_cons.mp hb with e | m
    · rw [e]
      exact ⟨vs, line_of (by rw [wellAll_len hall]; exact Nat.le_trans (PySem.W.length_le_weightAllW ds) z2), fun u hu => (h1 u hu).mono k, .inl ho⟩
    · exact (h2 b m).mono k
  | .tuple ds, _, x, p, z => by
    obtain ⟨a, vs, rfl, ho, hall⟩ := well_tuple x
    have z2 : WData.weightAll ds ≤ 1048576 := z
    obtain ⟨A, h1, h2⟩ := area_all ds _ hall p fun d hd => Nat.le_trans (weight_mem hd) z2
    have k : ∀ b ∈ A, b ∈ a :: A := fun b hb => List.mem_cons_of_mem _ hb
    refine ⟨a :: A, List.mem_cons_self .., fun b hb => ?_⟩
    rcases List.mem_cons.mp hb with e | m
    · rw [e]
      exact ⟨vs, line_of (by rw [wellAll_len hall]; exact Nat.le_trans (PySem.W.length_le_weightAllW ds) z2), fun u hu => (h1 u hu).mono k, .inr ho⟩
    · exact (h2 b m).mono k
  | .float _, _, _, p, _ => Bool.noConfusion (show false = true from p)
  | .dict _, _, _, p, _ => Bool.noConfusion (show false = true from p)
  | .bytearray _, _, _, p, _ => Bool.noConfusion (show false = true from p)
  | .set _, _, _, p, _ => Bool.noConfusion (show false = true from p)
  | .frozenset _, _, _, p, _ => Bool.noConfusion (show false = true from p)
  | .obj _ _, _, _, p, _ => Bool.noConfusion (show false = true from p)
theorem area_all : ∀ (ds : List WData) (vs : List Value), WellAll P h vs ds → plWs ds = true → (∀ d ∈ ds, d.weight ≤ 1048576) → ∃ A : List Addr, (∀ u ∈ vs, OkU A u) ∧ ∀ a ∈ A, ArgOb h A a
  | [], _, x, _, _ => by
    cases x
    exact ⟨[], fun u m => absurd m (by simp), fun a m => absurd m (by simp)⟩
  | d :: ds, _, x, p, z => by
    obtain ⟨v, vs, rfl, x1, x2⟩ := well_cons x
    have q : plW d = true ∧ plWs ds = true := Bool.and_eq_true_iff.mp p
    obtain ⟨A, a1, a2⟩ := area_one d v x1 q.1 (z d (List.mem_cons_self ..))
    obtain ⟨B, b1, b2⟩ := area_all ds vs x2 q.2 fun e he => z e (List.mem_cons_of_mem _ he)
    have kA : ∀ b ∈ A, b ∈ A ++ B := fun b hb => List.mem_append.mpr (.inl hb)
    have kB : ∀ b ∈ B, b ∈ A ++ B := fun b hb => List.mem_append.mpr (.inr hb)
    refine ⟨A ++ B, fun u hu => ?_, fun b hb => ?_⟩
    · rcases List.mem_cons.mp hu with e | m
      · rw [e]
        exact a1.mono kA
      · exact (b1 u m).mono kB
    · rcases List.mem_append.mp hb with m | m
      · exact (a2 b m).mono kA
      · exact (b2 b m).mono kB
end
end
/-- what is tracked of an argument's object -/
def hoOf (o : Obj) : Option HO := match o.data with
  | .seq vs _ => if (o.cls == Value.type "list") = true then some (.frz o (.lst (vs.toList.map toV))) else some (.frz o (.tup (vs.toList.map toV)))
  | _ => none
def argH (K : PySem.W.Frag) (h : Heap) (A : List Addr) : Hp := fun b => if b ∈ A then (if (K.lookup b).isNone = true then (h.get? b).bind hoOf else none) else none
/-- nothing is tracked but what is known to the object -/
def OnlyF (H : Hp) : Prop := ∀ b, H b = none ∨ ∃ o u, H b = some (.frz o u)
theorem hoOf_lst (vs : List Value) : hoOf { cls := .type "list", data := .seq vs.toArray } = some (.frz { cls := .type "list", data := .seq vs.toArray } (.lst (vs.map toV))) := by
  show (if (Value.type "list" == Value.type "list") = true then some (HO.frz { cls := .type "list", data := .seq vs.toArray } (.lst (vs.toArray.toList.map toV))) else some (HO.frz { cls := .type "list", data := .seq vs.toArray } (.tup (vs.toArray.toList.map toV)))) = _
  rw [if_pos (beq_self_eq_true _)]
theorem hoOf_tup (vs : List Value) : hoOf { cls := .type "tuple", data := .seq vs.toArray } = some (.frz { cls := .type "tuple", data := .seq vs.toArray } (.tup (vs.map toV))) := by
  show (if (Value.type "tuple" == Value.type "list") = true then some (HO.frz { cls := .type "tuple", data := .seq vs.toArray } (.lst (vs.toArray.toList.map toV))) else some (HO.frz { cls := .type "tuple", data := .seq vs.toArray } (.tup (vs.toArray.toList.map toV)))) = _
  rw [if_neg (by decide)]
section
variable {P : Program} {w : World} {K : PySem.W.Frag} {h : Heap} {A : List Addr}
theorem argH_at {b : Addr} {o : Obj} (hb : b ∈ A) (hk : K.lookup b = none) (e : h.get? b = some o) : argH K h A b = hoOf o := by
  unfold argH
  rw [if_pos hb, hk, if_pos (show (none : Option Obj).isNone = true from rfl), e] <;> rfl
theorem of_argH {b : Addr} {u : HO} (q : argH K h A b = some u) : b ∈ A ∧ K.lookup b = none := by
  unfold argH at q
  by_cases hb : b ∈ A
  · rw [if_pos hb] at q
    cases hk : K.lookup b with
    | none => exact ⟨hb, rfl⟩
    | some o =>
      rw [hk, if_neg (by simp)] at q
      cases q
  · rw [if_neg hb] at q
    cases q
/-- what stands tracked -/
theorem argH_is (ar : ∀ a ∈ A, ArgOb h A a) {b : Addr} {u : HO} (q : argH K h A b = some u) : K.lookup b = none ∧ ∃ vs : List Value, vs.length ≤ sizeLine ∧ (∀ u ∈ vs, OkU A u) ∧
    ((h.get? b = some { cls := .type "list", data := .seq vs.toArray } ∧ u = .frz { cls := .type "list", data := .seq vs.toArray } (.lst (vs.map toV))) ∨
     (h.get? b = some { cls := .type "tuple", data := .seq vs.toArray } ∧ u = .frz { cls := .type "tuple", data := .seq vs.toArray } (.tup (vs.map toV)))) := by
  obtain ⟨hb, hk⟩ := of_argH q
  obtain ⟨vs, h1, h2, h3⟩ := ar b hb
  refine ⟨hk, vs, h1, h2, ?_⟩
  rcases h3 with e | e
  · rw [argH_at hb hk e, hoOf_lst] at q
    exact .inl ⟨e, (Option.some.inj q).symm⟩
  · rw [argH_at hb hk e, hoOf_tup] at q
    exact .inr ⟨e, (Option.some.inj q).symm⟩
theorem argH_only (ar : ∀ a ∈ A, ArgOb h A a) : OnlyF (argH K h A) := fun b => by
  cases q : argH K h A b with
  | none => exact .inl rfl
  | some u =>
    obtain ⟨_, vs, _, _, ⟨_, e⟩ | ⟨_, e⟩⟩ := argH_is ar q
    · exact .inr ⟨_, _, by rw [e]⟩
    · exact .inr ⟨_, _, by rw [e]⟩
theorem argH_ok (ar : ∀ a ∈ A, ArgOb h A a) : HOk P w (argH K h A) h := fun b u q => by
  obtain ⟨_, vs, h1, h2, ⟨e, rfl⟩ | ⟨e, rfl⟩⟩ := argH_is ar q
  · exact ⟨e, by rw [List.length_map]; exact h1, vs, _, vals_toV h2, e⟩
  · exact ⟨e, by rw [List.length_map]; exact h1, vs, vals_toV h2, _, e, rfl, _, rfl⟩
theorem seq_inj {c c' : Value} {vs us : List Value} (e : (some { cls := c, data := .seq vs.toArray } : Option Obj) = some { cls := c', data := .seq us.toArray }) : c = c' ∧ vs = us := by
  have e1 := Option.some.inj e
  have e2 : c = c' := congrArg Obj.cls e1
  have e3 : Data.seq vs.toArray = Data.seq us.toArray := congrArg Obj.data e1
  injection e3 with e4
  refine ⟨e2, ?_⟩
  have e5 := congrArg Array.toList e4
  simpa using e5
/-- a list argument -/
theorem argL (KX : K.In h) (ar : ∀ a ∈ A, ArgOb h A a) {a : Addr} {vs : List Value} (ha : a ∈ A) (e : h.get? a = some { cls := .type "list", data := .seq vs.toArray }) : (∀ u ∈ vs, OkU A u) ∧ SqL K (argH K h A) a (vs.map toV) := by
  obtain ⟨us, h1, h2, h3⟩ := ar a ha
  have hu : us = vs := by
    rcases h3 with q | q
    · rw [e] at q
      exact (seq_inj q).2.symm
    · rw [e] at q
      exact absurd (Value.type.inj (seq_inj q).1) (by decide)
  subst hu
  refine ⟨h2, ?_⟩
  cases hk : K.lookup a with
  | none => exact .inl (.inr ⟨_, by rw [argH_at ha hk e, hoOf_lst]⟩)
  | some o =>
    have e2 := KX a o hk
    rw [e] at e2
    obtain rfl := Option.some.inj e2
    exact .inr ⟨_, us.toArray, _, hk, rfl, rfl, rfl, by rw [List.size_toArray]; exact h1, by simpa using vals_toV h2⟩
theorem argT (KX : K.In h) (ar : ∀ a ∈ A, ArgOb h A a) {a : Addr} {vs : List Value} (ha : a ∈ A) (e : h.get? a = some { cls := .type "tuple", data := .seq vs.toArray }) : (∀ u ∈ vs, OkU A u) ∧ SqT K (argH K h A) a (vs.map toV) := by
  obtain ⟨us, h1, h2, h3⟩ := ar a ha
  have hu : us = vs := by
    rcases h3 with q | q
    · rw [e] at q
      exact absurd (Value.type.inj (seq_inj q).1) (by decide)
    · rw [e] at q
      exact (seq_inj q).2.symm
  subst hu
  refine ⟨h2, ?_⟩
  cases hk : K.lookup a with
  | none => exact .inl (.inr ⟨_, by rw [argH_at ha hk e, hoOf_tup]⟩)
  | some o =>
    have e2 := KX a o hk
    rw [e] at e2
    obtain rfl := Option.some.inj e2
    exact .inr ⟨_, us.toArray, _, hk, rfl, rfl, by rw [List.size_toArray]; exact h1, by simpa using vals_toV h2⟩
mutual
theorem dw_one {Pm : Params} (KX : K.In h) (ar : ∀ a ∈ A, ArgOb h A a) : ∀ (d : WData) (v : Value), Well Pm h v d → plW d = true → OkU A v → Dw K (argH K h A) (toV v) d
  | .none, _, x, _, _ => by
    cases x
    exact .non
  | .bool b, _, x, _, _ => by
    cases x
    exact .bl b
  | .int i, _, x, _, _ => by
    cases x
    exact .int i
  | .str s, _, x, _, _ => by
    cases x
    exact .str s
  | .bytes b, _, x, _, _ => by
    cases x
    have z := Dw.byt (K := K) (H := argH K h A) b.toArray
    exact z
  | .list ds, _, x, p, hu => by
    obtain ⟨a, vs, rfl, ho, hall⟩ := well_list x
    obtain ⟨h2, hs⟩ := argL KX ar hu ho
    exact .lst hs (dw_all KX ar ds _ hall p h2)
  | .tuple ds, _, x, p, hu => by
    obtain ⟨a, vs, rfl, ho, hall⟩ := well_tuple x
    obtain ⟨h2, hs⟩ := argT KX ar hu ho
    exact .tup hs (dw_all KX ar ds _ hall p h2)
  | .float _, _, _, p, _ => Bool.noConfusion (show false = true from p)
  | .dict _, _, _, p, _ => Bool.noConfusion (show false = true from p)
  | .bytearray _, _, _, p, _ => Bool.noConfusion (show false = true from p)
  | .set _, _, _, p, _ => Bool.noConfusion (show false = true from p)
  | .frozenset _, _, _, p, _ => Bool.noConfusion (show false = true from p)
  | .obj _ _, _, _, p, _ => Bool.noConfusion (show false = true from p)
theorem dw_all {Pm : Params} (KX : K.In h) (ar : ∀ a ∈ A, ArgOb h A a) : ∀ (ds : List WData) (vs : List Value), WellAll Pm h vs ds → plWs ds = true → (∀ u ∈ vs, OkU A u) → DwAll K (argH K h A) (vs.map toV) ds
  | [], _, x, _, _ => by
    cases x
    exact .nil
  | d :: ds, _, x, p, hu => by
    obtain ⟨v, vs, rfl, x1, x2⟩ := well_cons x
    have q : plW d = true ∧ plWs ds = true := Bool.and_eq_true_iff.mp p
    exact .cons (dw_one KX ar d v x1 q.1 (hu _ (List.mem_cons_self ..))) (dw_all KX ar ds vs x2 q.2 fun u m => hu u (List.mem_cons_of_mem _ m))
end
end
/-! ### the call -/
theorem spec_call {P : Program} {w : World} {K : PySem.W.Frag} {mg mb : Str → Option Value} {CX : CXT} {k : Nat} {fa : Addr} {fd : FuncData} {ps : List Str} {sp : Sp} {s₁ : Shared} {vals : List Value} {ds : List WData} {R : PySem.W.WRecords} {cl : Str → Option Addr} {d0 : WData}
    (KX : K.In s₁.heap) (hns : s₁.heap.Ns mainGlobals mg) (hb : s₁.heap.Ns builtinsNs mb) (hbb : ∀ x : Str, x ≠ "__name__" → mb x = bootBuiltins x) (hlim : s₁.heap.NoLimit) (hg : s₁.gens = #[])
    (hwl : WellAll w.params s₁.heap vals ds) (hpl : plWs ds = true) (hwt : ∀ d ∈ ds, d.weight ≤ 1048576) (hr : Room k callerA)
    (F : ∀ base : Heap, K.In base → base.Ns mainGlobals mg → FnOk P w K mg base CX k fa fd ps sp) (hbind : ∀ (s : Shared) (us : List Value), us.length = ps.length → BindsTo s fd ⟨us, []⟩ (ps.zip us)) (hlen : ds.length = ps.length)
    (hsp : ∀ (H : Hp) (xs : List V), OnlyF H → DwAll K H xs ds → sp xs H (fun v H' => Dw K H' v d0) fun _ _ _ => False)
    (hCX : ∀ H e s', CX [] H s₁ (fun _ _ _ => False) e s' → False) :
    codeAny (model P w) callerA (.call (.ref fa) ⟨vals, []⟩) (fun r s' => ∃ u as, r = .ok (.ret u) ∧ ReadsW R cl s'.heap u d0 as ∧ OldK s₁.heap s'.heap ∧ s'.os = s₁.os ∧ AllBare s'.gens) s₁ := by
  obtain ⟨A, ho, ar⟩ := area_all ds vals hwl hpl hwt
  have hO : OnlyF (argH K s₁.heap A) := argH_only ar
  have hok : HOk P w (argH K s₁.heap A) s₁.heap := argH_ok ar
  have hS := dw_all KX ar ds vals hwl hpl ho
  have hV := vals_toV ho
  have hK : ∀ b u, argH K s₁.heap A b = some u → K.lookup b = none := fun b u q => (argH_is ar q).1
  have noA : ∀ {b : Addr} {o : Obj} {es : Array DictEntry} {ep : Nat}, s₁.heap.get? b = some o → o.data = .dict es ep → argH K s₁.heap A b = none := fun {b o es ep} e d => by
    cases q : argH K s₁.heap A b with
    | none => rfl
    | some u =>
      obtain ⟨_, vs, _, _, ⟨e2, _⟩ | ⟨e2, _⟩⟩ := argH_is ar q
      · rw [e2] at e
        cases e
        have d' : Data.seq vs.toArray _ = Data.dict es ep := d
        cases d'
      · rw [e2] at e
        cases e
        have d' : Data.seq vs.toArray _ = Data.dict es ep := d
        cases d'
  generalize argH K s₁.heap A = H at hO hok hS hK noA
  have base_of : ∀ {b : Addr} {o : Obj}, s₁.heap.get? b = some o → H b = none → (hidT s₁.heap H).get? b = some o := fun e n => hidT_get e n
  have nsK : ∀ {b : Addr} {m : Str → Option Value}, s₁.heap.Ns b m → (hidT s₁.heap H).Ns b m := fun {b m} ⟨o, es, ep, e, d, r⟩ => ⟨o, es, ep, base_of e (noA e d), d, r⟩
  have nK : ∀ b o, K.lookup b = some o → H b = none := fun b o e => by
    cases q : H b with
    | none => rfl
    | some u =>
      rw [hK b u q] at e
      cases e
  have hKb : K.In (hidT s₁.heap H) := fun b o e => base_of (KX b o e) (nK b o e)
  have hM : Mod K mg (hidT s₁.heap H) := ⟨hKb, nsK hns, ⟨mb, nsK hb, hbb⟩, let ⟨mc, h1, h2⟩ := hlim; ⟨mc, nsK h1, h2⟩⟩
  have e0 : Env0 P w K mg (hidT s₁.heap H) callerA [] s₁ H := ⟨rfl, hM, fun b o e => of_hidT e, Nat.le_of_eq (hidT_size _ _), trivial, fun b hb => absurd (show b ∈ ([] : List Addr) from hb) (by simp), hok, .of_eq hg⟩
  have hl : vals.length = ps.length := by rw [wellAll_len hwl]; exact hlen
  refine codeAny_mono ((F _ hKb (nsK hns)).run callerA [] s₁ H ⟨vals, []⟩ vals (vals.map toV) _ _ hr e0 (hbind s₁ vals hl) hV (hsp H _ hO hS)) fun r s' x => ?_
  cases r with
  | error e => exact (hCX H e s' x).elim
  | ok fl =>
    cases fl with
    | next => exact False.elim x
    | brk => exact False.elim x
    | cont => exact False.elim x
    | ret u =>
      obtain ⟨v, H', os, bare, un, hok', r', q⟩ := x
      have kept : ∀ b o, s₁.heap.get? b = some o → s'.heap.get? b = some o := fun b o e => by
        cases q2 : H b with
        | none => exact un.keep b o e q2 (by intro z; exact absurd (show b ∈ ([] : List Addr) from z) (by simp)) (by simp)
        | some u2 =>
          rcases hO b with z | ⟨ob, u3, z⟩
          · rw [q2] at z
            cases z
          · have z2 := un.frzs b ob _ z
            obtain ⟨e1, _⟩ := hok b _ z
            obtain ⟨e2, _⟩ := hok' b _ z2
            rw [e] at e1
            cases e1
            exact e2
      have KX' : K.In s'.heap := fun b o e => kept b o (KX b o e)
      obtain ⟨as, hrd⟩ := Dw.reads (R := R) (cl := cl) hok' KX' d0 v u q r'
      exact ⟨u, as, rfl, hrd, OldK.of_keep kept, os, bare⟩
/-! ### the row -/
theorem layable_weight {ds : List WData} (h : WData.layableAll ds = true) : ∀ d ∈ ds, d.weight ≤ 1048576 := fun d hd =>
  (PySem.W.layableW_iff.mp (List.all_eq_true.mp h d hd)).2.2
theorem encAll_len : ∀ (cs : List Codec) (a : Codec.denoteAll cs), (Codec.encAll cs a).length = cs.length
  | [], _ => rfl
  | c :: cs, a => by
    show (Codec.encAll cs a.2).length + 1 = cs.length + 1
    rw [encAll_len cs a.2]
/-- the goal that k_headS leaves (case hc), from the promise of the row's def: whatever the arguments that the codecs let and the row asks for, the def gives what stands for enc (f ..) -/
theorem walk_spec {r : OpenSpec} {k : Nat} {q : Program} {loose : List Str} {XP : (Str → Option Value) → Heap → Prop} {YP : World → Heap → Prop} {d : DefRec} {K : Params → PySem.W.Frag} {CX : World → CXT} {ps : List Str} {sp : World → Sp}
    (hwell : r.wellSaid = true) (hdf : d.params.defaults = []) (hlen : r.args.length = ps.length) (hr : Room k callerA)
    (hY : ∀ (w : World) (h : Heap), YP w h → (K w.params).In h)
    (F : ∀ (w : World) (mg : Str → Option Value) (fa : Addr) (h : Heap), YP w h → (K w.params).In h → h.Ns mainGlobals mg → mg d.name = some (.ref fa) →
      ∃ fd : FuncData, (∀ (s : Shared) (us : List Value), us.length = ps.length → BindsTo s fd ⟨us, []⟩ (ps.zip us)) ∧
        ∀ base : Heap, (K w.params).In base → base.Ns mainGlobals mg → FnOk r.prog w (K w.params) mg base (CX w) k fa fd ps (sp w))
    (hsp : ∀ (w : World) (H : Hp) (xs : List V) (a : Codec.denoteAll r.args), OnlyF H → Codec.withinAll r.args a = true → Codec.app r.args r.asked a = true → DwAll (K w.params) H xs (Codec.encAll r.args a) →
      sp w xs H (fun v H' => Dw (K w.params) H' v (r.ret.enc (Codec.app r.args r.f a))) fun _ _ _ => False)
    (hCX : ∀ (w : World) (H : Hp) (s : Shared) (e : Value) (s' : Shared), CX w [] H s (fun _ _ _ => False) e s' → False) :
    PySem.W.WalkOS q loose XP YP r d [] (fun f vs => PySem.call f vs) := by
  intro w s_0 s₁ mg mb G Y fa o pm cd doc dV kV ho hd hcd hD hmg hg args vals as hpre hlay hrd hwl hlo
  obtain ⟨a, e1, e2⟩ := PySem.W.os_pre_some hpre
  obtain ⟨e3, hwi⟩ := Codec.encAll_of_decAll r.args args a e1
  subst e3
  have KX := hY w _ Y
  obtain ⟨fd, hb, hF⟩ := F w mg fa _ Y KX G.T.g hmg
  refine PySem.W.enter_call (codeAny_mono (spec_call (R := []) (cl := classAt s_0.heap) (d0 := r.ret.enc (Codec.app r.args r.f a)) KX G.T.g G.T.b G.T.builtins G.T.nolimit hg hwl (pl_encAll _ _) (layable_weight hlay) hr hF hb (by rw [encAll_len]; exact hlen)
    (fun H xs hO hS => hsp w H xs a hO hwi e2 hS) fun H e s' => hCX w H s₁ e s') fun r' s' hq => ?_)
  obtain ⟨u, as', rfl, h1, h2, h3, h4⟩ := hq
  exact ⟨.inl ⟨u, _, as', rfl, fun _ => rfl, h1, (OpenSpec.post_iff hwell hwi _ _).mpr rfl, fun z => Bool.noConfusion (show false = true from z)⟩, h2, h3, h4⟩
/-- the same where the promise hangs on the written part alone -/
theorem walk_specK {r : OpenSpec} {k : Nat} {q : Program} {loose : List Str} {XP : (Str → Option Value) → Heap → Prop} {YP : World → Heap → Prop} {d : DefRec} {K : Params → PySem.W.Frag} {CX : CXT} {ps : List Str} {sp : PySem.W.Frag → Sp}
    (hwell : r.wellSaid = true) (hdf : d.params.defaults = []) (hlen : r.args.length = ps.length) (hr : Room k callerA)
    (hY : ∀ (w : World) (h : Heap), YP w h → (K w.params).In h)
    (F : ∀ (w : World) (mg : Str → Option Value) (fa : Addr) (h : Heap), YP w h → (K w.params).In h → h.Ns mainGlobals mg → mg d.name = some (.ref fa) →
      ∃ fd : FuncData, (∀ (s : Shared) (us : List Value), us.length = ps.length → BindsTo s fd ⟨us, []⟩ (ps.zip us)) ∧
        ∀ base : Heap, (K w.params).In base → base.Ns mainGlobals mg → FnOk r.prog w (K w.params) mg base CX k fa fd ps (sp (K w.params)))
    (hsp : ∀ (K : PySem.W.Frag) (H : Hp) (xs : List V) (a : Codec.denoteAll r.args), OnlyF H → Codec.withinAll r.args a = true → Codec.app r.args r.asked a = true → DwAll K H xs (Codec.encAll r.args a) →
      sp K xs H (fun v H' => Dw K H' v (r.ret.enc (Codec.app r.args r.f a))) fun _ _ _ => False)
    (hCX : ∀ (H : Hp) (s : Shared) (e : Value) (s' : Shared), CX [] H s (fun _ _ _ => False) e s' → False) :
    PySem.W.WalkOS q loose XP YP r d [] (fun f vs => PySem.call f vs) :=
  walk_spec (K := K) (CX := fun _ => CX) (sp := fun w => sp (K w.params)) hwell hdf hlen hr hY F (fun w H xs a h1 h2 h3 h4 => hsp (K w.params) H xs a h1 h2 h3 h4) fun _ H s e s' => hCX H s e s'
end L2
end
section
set_option maxRecDepth 100000
set_option Elab.async false
namespace PySem
namespace XL
section
variable {prog : Program} {w : World} {A : Around} {E : Value → Shared → Prop} {h : Heap} {g : Array GenState} {d : Drawn} {t : Nat} {os : OsState}
variable {nm q : Str} {C N : Addr} {bs bm : List Value} {hdct : Bool} {sn : List Str} {sub : List Value} {ab : Bool} {col : Option Bool} {dd : Option Addr} {k0 k1 k2 k3 k5 : Option Value} {B newId initId : String}
end
section
variable {M : Model} {A : Around} {E : Value → Shared → Prop} {env : Env}
variable {nm q : Str} {C N : Addr} {bs bm : List Value} {hdct : Bool} {sn : List Str} {sub : List Value} {ab : Bool} {col : Option Bool} {dd : Option Addr} {k0 k1 k2 k3 k5 : Option Value} {newId : String}
/-- raise of an instance that has no traceback yet -/
theorem raiseStmt_inst {s : Shared} {x : Sem Value} {Q : Flow → Shared → Prop} (hbase : bm.contains (.type "BaseException") = true) (hh : A.handled = none)
    (h : wpAny M A x (fun v s₁ => ∃ e oe vs, v = .ref e ∧ s₁.heap.get? C = some (excClassObj nm q C N bs bm hdct sn sub ab col dd k0 k1 k2 k3 k5 newId) ∧
      s₁.heap.get? e = some oe ∧ oe.cls = .ref C ∧ oe.data = .fields vs ∧ vs[1]? = some .none ∧ E (.ref e) s₁) E s) :
    wpAny M A (raiseStmt env (some x) none) Q E s := by
  have hcB : (Value.ref C :: bm).contains (.type "BaseException") = true := by rw [List.contains_cons, hbase, Bool.or_true]
  unfold raiseStmt
  refine wpAny_bind (wpAny_mono h (fun v s₁ h₁ => ?_) fun _ _ x => x)
  obtain ⟨e, oe, vs, rfl, hC, he, hcls, hd, h1, hE⟩ := h₁
  obtain ⟨hp, g, d, tk, os⟩ := s₁
  obtain ⟨oc, od, odt, osl⟩ := oe
  obtain rfl : oc = .ref C := hcls
  obtain rfl : odt = .fields vs := hd
  repeat (first | with_reducible refine wpAny_loadPart_at he ?_ | with_reducible refine wpAny_loadPart_at hC ?_ | (with_reducible refine wpAny_isSubtype_exc hC ?_; rw [hcB]) | wp_step)
  rw [h1]
  refine wpAny_pure ?_
  rw [if_neg (by decide)]
  exact wpAny_pure (wpAny_raiseNew_none hh hE)
end
section
variable {prog : Program} {w : World} {A : Around} {E : Value → Shared → Prop} {h : Heap} {g : Array GenState} {d : Drawn} {t : Nat} {os : OsState}
variable {nm q : Str} {C N x : Addr} {bs bm : List Value} {sn : List Str} {sub : List Value} {ab : Bool} {col : Option Bool} {dd : Option Addr} {k0 k1 k2 k3 k5 : Option Value} {B newId initId : String}
  {mN mA : Str → Option Value} {name : Str} {v : Value}
end
end XL
end PySem
end
section
set_option maxRecDepth 100000
set_option Elab.async false
namespace PySem
namespace XL
/-- what a note of a frame leaves: fr the frames, e the exception, T the new entry, z an entry that was there -/
structure Noted (fr : List Addr) (z e T : Addr) (oe : Obj) (fl : Value) (h h' : Heap) : Prop where
  new : h.objs.size ≤ T
  ne : T ≠ e
  keep : ∀ b o, b ∉ fr → b ≠ e → b ≠ z → h.get? b = some o → h'.get? b = some o
  slot : ∀ b o, b ∈ fr → b ≠ e → b ≠ z → h.get? b = some o → ∃ sl, h'.get? b = some { o with slots := sl }
  exc : h'.get? e = some (oe.mapFields (·.setIfInBounds 1 (.ref T)))
  ent : ∃ oT ts, h'.get? T = some oT ∧ oT.data = .fields ts ∧ ts[3]? = some fl
section
variable {M : Model} {A : Around} {E : Value → Shared → Prop} {s : Shared}
theorem entry_new {base : Heap} {env : Env} {outer : List Env} {L e z : Addr} {oe : Obj} {vs : Array Value} {head : Value} {hn : Bool} {Q : Unit → Shared → Prop}
    (fs : A.frames = some (env :: outer)) (ff : s.heap.FunFrames base (env :: outer)) (fL : env.frame = some L) (ge : s.heap.get? e = some oe) (de : oe.data = .fields vs) (ze : 1 < vs.size)
    (k : ∀ h' T, Noted ((env :: outer).filterMap (·.frame)) z e T oe (rawInt L) s.heap h' → Q () { s with heap := h' }) :
    wpAny M A (do
      let a ← frameOf env
      let pl ← entryPlaceOf L hn
      let b ← EntryCells.newEntry head a .none (rawInt L) .none pl
      setField (.ref e) 1 b) Q E s := by
  have nf : e ∉ (env :: outer).filterMap (·.frame) := fun m => by
    obtain ⟨_, o, g1, g2⟩ := ff.mem m
    rw [ge] at g1
    cases g1
    exact g2 vs de
  refine wpAny_bind (wpAny_frameOf_fun fs ff fL fun g gs => wpAny_bind (wpAny_entryPlaceOf fun pl hp => ?_))
  unfold EntryCells.newEntry newFields
  refine wpAny_bind (wpAny_newObj_type ?_ (hp.sizeOk5 _ _ _ _ _))
  have g1 : g.get? e = some oe := (gs.2.1 e nf).trans ge
  have g2 := Heap.get?_push_of_some (h := g) { cls := .type "traceback", dict := none, data := .fields ([head, .ref L, .none, rawInt L, .none] ++ (if pl.isEmpty then List.replicate 6 Value.none else pl)).toArray } g1
  have te : g.objs.size ≠ e := Nat.ne_of_gt (Heap.lt_size g1)
  refine wpAny_setField g2 de ze (k _ g.objs.size ⟨Nat.le_of_eq gs.1.symm, te, fun b o n1 n2 _ g3 => ?_, fun b o n1 n2 _ g3 => ?_, ?_, ?_⟩)
  · rw [Heap.get?_update_other _ _ (Ne.symm n2)]
    exact Heap.get?_push_of_some _ ((gs.2.1 b n1).trans g3)
  · obtain ⟨sl, g4⟩ := gs.2.2 b o g3
    exact ⟨sl, by rw [Heap.get?_update_other _ _ (Ne.symm n2)]; exact Heap.get?_push_of_some _ g4⟩
  · exact Heap.get?_update_self _ g2 (Obj.isFreed_of_fields (Obj.data_mapFields de _))
  · refine ⟨_, _, (Heap.get?_update_other _ _ (Ne.symm te)).trans (Heap.get?_push_size g rfl), rfl, ?_⟩
    first | (simp; done) | (rcases hp with rfl | ⟨_, _, _, _, _, _, _, rfl⟩ <;> simp)
/-- a frame is noted on an exception that has no entry yet -/
theorem note_first {base : Heap} {env : Env} {outer : List Env} {L e z : Addr} {oe : Obj} {vs : Array Value} {Q : Unit → Shared → Prop}
    (fs : A.frames = some (env :: outer)) (ff : s.heap.FunFrames base (env :: outer)) (fL : env.frame = some L) (ge : s.heap.get? e = some oe) (de : oe.data = .fields vs) (h1 : vs[1]? = some .none)
    (k : ∀ h' T, Noted ((env :: outer).filterMap (·.frame)) z e T oe (rawInt L) s.heap h' → Q () { s with heap := h' }) : wpAny M A (noteFrame (.ref e) env) Q E s := by
  unfold noteFrame
  simp only [fL]
  refine wpAny_bind (wpAny_field ge de h1 ?_)
  rw [if_neg (by decide)]
  exact entry_new fs ff fL ge de (Array.getElem?_eq_some_iff.mp h1).1 k
/-- .. on one that has an entry, not in flight here -/
theorem note_next {base : Heap} {env : Env} {outer : List Env} {L e z : Addr} {oe oz : Obj} {vs zs : Array Value} {Q : Unit → Shared → Prop}
    (fs : A.frames = some (env :: outer)) (ff : s.heap.FunFrames base (env :: outer)) (fL : env.frame = some L) (ge : s.heap.get? e = some oe) (de : oe.data = .fields vs) (h1 : vs[1]? = some (.ref z))
    (gz : s.heap.get? z = some oz) (dz : oz.data = .fields zs) {fl : Value} (h3 : zs[3]? = some fl) (hfl : (fl == rawInt L) = false) (ez : z ≠ e)
    (k : ∀ h' T, Noted ((env :: outer).filterMap (·.frame)) z e T oe (rawInt L) s.heap h' → T ≠ z → (∃ o ts, h'.get? z = some o ∧ o.data = .fields ts ∧ ts[3]? = some .none) → Q () { s with heap := h' }) : wpAny M A (noteFrame (.ref e) env) Q E s := by
  have zz : 3 < zs.size := (Array.getElem?_eq_some_iff.mp h3).1
  unfold noteFrame
  simp only [fL]
  refine wpAny_bind (wpAny_field ge de h1 ?_)
  rw [if_pos (show (Value.ref z != Value.none) = true by simp)]
  refine wpAny_bind (wpAny_field gz dz h3 ?_)
  rw [if_neg (show ¬ ((fl == rawInt L) = true) by rw [hfl]; exact Bool.false_ne_true)]
  refine wpAny_bind (wpAny_setField gz dz zz ?_)
  have oth : ∀ b, b ≠ z → (s.heap.update z (Obj.mapFields (·.setIfInBounds 3 Value.none))).get? b = s.heap.get? b := fun b n => Heap.get?_update_other _ _ (Ne.symm n)
  have gz' : (s.heap.update z (Obj.mapFields (·.setIfInBounds 3 Value.none))).get? z = _ := Heap.get?_update_self _ gz (Obj.isFreed_of_fields (Obj.data_mapFields dz _))
  have nrec : ∀ b o, s.heap.get? b = some o → (∀ ws, o.data ≠ .fields ws) → b ≠ z := fun b o g1 g2 q => by
    rw [q, gz] at g1
    cases g1
    exact g2 zs dz
  have ff' := ff.of_keeps (h' := s.heap.update z (Obj.mapFields (·.setIfInBounds 3 Value.none))) fun b o g1 g2 => ⟨o, (oth b (nrec b o g1 g2)).trans g1, rfl⟩
  have nfz : z ∉ (env :: outer).filterMap (·.frame) := fun m => by
    obtain ⟨_, o, g1, g2⟩ := ff.mem m
    rw [gz] at g1
    cases g1
    exact g2 zs dz
  refine entry_new (z := e) fs ff' fL ((oth e (Ne.symm ez)).trans ge) de (Array.getElem?_eq_some_iff.mp h1).1 fun h' T n => ?_
  have nn : s.heap.objs.size ≤ T := by
    have := n.new
    rw [Heap.size_update] at this
    exact this
  have tz : T ≠ z := fun q => absurd (Heap.lt_size gz) (by rw [← q]; exact Nat.not_lt.mpr nn)
  have hz' := n.keep z _ nfz ez ez gz'
  exact k h' T ⟨nn, n.ne, fun b o n1 n2 n3 g1 => n.keep b o n1 n2 n2 ((oth b n3).trans g1), fun b o n1 n2 n3 g1 => n.slot b o n1 n2 n2 ((oth b n3).trans g1), n.exc, n.ent⟩ tz
    ⟨_, _, hz', Obj.data_mapFields dz _, by simp [zz]⟩
end
end XL
end PySem
end
section
set_option maxRecDepth 100000
set_option Elab.async false
namespace PySem
namespace XL
open Builtin.ObjectAttr
section
variable {prog : Program} {w : World} {A : Around} {E : Value → Shared → Prop} {h : Heap} {g : Array GenState} {d : Drawn} {t : Nat} {os : OsState}
variable {nm q : Str} {C N x : Addr} {bs bm : List Value} {sn : List Str} {sub : List Value} {ab : Bool} {col : Option Bool} {dd : Option Addr} {k0 k1 k2 k3 k5 : Option Value} {B newId sa owner : String}
  {mN : Str → Option Value} {name : Str} {v : Value}
end
end XL
end PySem
end
section
set_option maxRecDepth 100000
set_option Elab.async false
namespace PySem
namespace XL
open AutoSeq1 (wpAny_loadPart')
section
variable {prog : Program} {w : World} {A : Around} {E : Value → Shared → Prop} {s : Shared}
theorem nextOf_tup_item {j t : Addr} {i : Nat} {its : Array Value} {x : Value} {Q : Value → Shared → Prop} (hj : s.heap.IsTupleIter j t i) (ht : s.heap.IsTuple t its) (hx : its[i]? = some x)
    (k : ∀ h', h'.IsTupleIter j t (i + 1) → Heap.SameBut j s.heap h' → Q x { s with heap := h' }) : wpAny (model prog w) A (Builtin.SmallTypes.nextOf (.ref j)) Q E s := by
  obtain ⟨o, g1, c1, d1⟩ := id hj
  obtain ⟨p, g2, _, n, d2⟩ := ht
  unfold Builtin.SmallTypes.nextOf
  refine wpAny_bind (wpAny_callSpecial?_slot (name := Str.ofString "__next__") hj.typeIs F.slot_tuple_iterator_next (wpAny_call_entry F.slot_tuple_iterator_next hj.typeIs F.entry_tuple_iterator_next ?_ (F.args_tuple_iterator_next_1 _)))
  show wpAny _ _ (field (.ref j) 0 >>= _) _ _ s
  refine wpAny_bind (wpAny_field g1 d1 (x := .ref t) rfl ?_)
  show wpAny _ _ (if (Value.ref t == Value.none) = true then _ else _) _ _ s
  rw [if_neg (show ¬ (Value.ref t == Value.none) = true from Bool.false_ne_true)]
  show wpAny _ _ (field (.ref j) 1 >>= _) _ _ s
  refine wpAny_bind (wpAny_field g1 d1 (x := .int i 0) rfl ?_)
  show wpAny _ _ (seqItems? (.ref t) >>= _) _ _ s
  refine wpAny_bind (wpAny_seqItems g2 d2 ?_)
  simp only [Int.toNat_natCast, hx]
  refine wpAny_bind (wpAny_setField g1 d1 (by simp) (wpAny_pure ⟨x, rfl, wpAny_pure (k _ ⟨_, Heap.get?_update_self _ g1 (Obj.isFreed_of_fields (Obj.data_mapFields d1 _)), (Obj.cls_mapFields ..).trans c1, ?_⟩ (Heap.SameBut.update ..))⟩))
  rw [Obj.data_mapFields d1]
  simp [rawInt]
theorem nextOf_tup_end {j t : Addr} {i : Nat} {its : Array Value} {Q : Value → Shared → Prop} (hh : A.handled = none) (hj : s.heap.IsTupleIter j t i) (ht : s.heap.IsTuple t its) (hx : its[i]? = none)
    (k : ∀ h' e, Heap.ExtBut j s.heap h' → (∃ o, h'.get? e = some o ∧ o.cls = .type "StopIteration") → E (.ref e) { s with heap := h' }) : wpAny (model prog w) A (Builtin.SmallTypes.nextOf (.ref j)) Q E s := by
  obtain ⟨o, g1, c1, d1⟩ := id hj
  obtain ⟨p, g2, _, n, d2⟩ := ht
  unfold Builtin.SmallTypes.nextOf
  refine wpAny_bind (wpAny_callSpecial?_slot (name := Str.ofString "__next__") hj.typeIs F.slot_tuple_iterator_next (wpAny_call_entry F.slot_tuple_iterator_next hj.typeIs F.entry_tuple_iterator_next ?_ (F.args_tuple_iterator_next_1 _)))
  show wpAny _ _ (field (.ref j) 0 >>= _) _ _ s
  refine wpAny_bind (wpAny_field g1 d1 (x := .ref t) rfl ?_)
  show wpAny _ _ (if (Value.ref t == Value.none) = true then _ else _) _ _ s
  rw [if_neg (show ¬ (Value.ref t == Value.none) = true from Bool.false_ne_true)]
  show wpAny _ _ (field (.ref j) 1 >>= _) _ _ s
  refine wpAny_bind (wpAny_field g1 d1 (x := .int i 0) rfl ?_)
  show wpAny _ _ (seqItems? (.ref t) >>= _) _ _ s
  refine wpAny_bind (wpAny_seqItems g2 d2 ?_)
  simp only [Int.toNat_natCast, hx]
  refine wpAny_bind (wpAny_rule (wpAny_bind (wpAny_setField g1 d1 (by simp) ?_)))
  show wpAny _ _ (newExc (.type "StopIteration") [] >>= _) _ _ _
  simp only [newExc, newTuple]
  refine wpAny_bind (wpAny_bind (wpAny_newObj_type ?_ (by size_fits)))
  refine wpAny_bind (m := firstArgMember _ _) (wpAny_of_eq (a := Value.none) (by first | rfl | (simp only [firstArgMember]; rfl)) (wpAny_newObj_type ?_ (by size_fits)))
  simp only [raiseNew]
  refine wpAny_bind (wpAny_handled ?_)
  first | rw [show A.in1.handled = none from hh] | rw [hh]
  exact wpAny_bind (wpAny_pure (wpAny_throw (k _ _ (((Heap.SameBut.update ..).extBut.push _).push _) ⟨_, Heap.get?_push_size _ rfl, rfl⟩)))
end
theorem draws_tup {prog : Program} {w : World} {A : Around} (hh : A.handled = none) (j t : Addr) (hne : t ≠ j) (its : Array Value) :
    Draws prog w A j [j, t] its.size (fun i v => its[i]? = some v) (fun i h => h.IsTupleIter j t i ∧ h.IsTuple t its) where
  live := fun _ _ st => let ⟨o, ho, _⟩ := st.1; ⟨o, ho⟩
  frame := fun _ _ _ st hk => ⟨st.1.at fun o e => hk j (by simp) o e, let ⟨o, ho, r⟩ := st.2; ⟨o, hk t (by simp) o ho, r⟩⟩
  item := fun i s Q E hi st hQ => nextOf_tup_item st.1 st.2 (x := its[i]) (by simp [hi]) fun h' hit' hs' => hQ _ h' s.toks (by simp [hi]) ⟨hit', let ⟨o, ho, r⟩ := st.2; ⟨o, (hs'.2 t hne).trans ho, r⟩⟩ hs'
  done := fun s Q E st hE => nextOf_tup_end hh st.1 st.2 (by simp) hE
theorem meets_enum_tup (t : Addr) (its : Array Value) (n : Nat) (dct : Option Addr) (sl : Array (Option Value)) :
    Meets (Builtin.«enumerate.__new__» ⟨[.type "enumerate", .ref t], []⟩) (fun _ R s => s.heap.get? t = some { cls := .type "tuple", dict := dct, data := .seq its n, slots := sl } ∧
      R (.ok (.ret (.ref (s.heap.push { cls := .type "tuple_iterator", data := .fields #[.ref t, .int 0 0] }).objs.size)))
        { s with heap := (s.heap.push { cls := .type "tuple_iterator", data := .fields #[.ref t, .int 0 0] }).push { cls := .type "enumerate", data := .fields #[.none, .bool false, .ref s.heap.objs.size, rawInt 0, .none, .none] } }) :=
  .of_wp fun prog w A R s h => by
    obtain ⟨hp, g, d, tk, os⟩ := s
    obtain ⟨hl, h⟩ := h
    have hsub := sub_enumerate
    have hT : Heap.IsTuple (Shared.heap ⟨hp, g, d, tk, os⟩) t its := ⟨_, hl, rfl, n, rfl⟩
    wp_walk using wpAny_loadPart' hl
    refine wpAny_stack_any fun st => wpAny_pure ?_
    split
    · rename_i c _ _ _ _ _
      cases (c == Value.type "enumerate")
      · wp_walk using wpAny_loadPart' hl, wpAny_pyIter_tuple hT
        exact ⟨_, rfl, h⟩
      · wp_walk using wpAny_loadPart' hl, wpAny_pyIter_tuple hT
        exact ⟨_, rfl, h⟩
    · wp_walk using wpAny_loadPart' hl, wpAny_pyIter_tuple hT
      exact ⟨_, rfl, h⟩
section
variable {prog : Program} {w : World} {A : Around} {E : Value → Shared → Prop} {s : Shared}
theorem call_enum_tup {t : Addr} {its : Array Value} {Q : Value → Shared → Prop} (hT : s.heap.IsTuple t its)
    (k : ∀ h', IsEnum h' (s.heap.objs.size + 1) s.heap.objs.size 0 .none → h'.IsTupleIter s.heap.objs.size t 0 → h'.objs.size = s.heap.objs.size + 2 → (∀ b o, s.heap.get? b = some o → h'.get? b = some o) → Q (.ref (s.heap.objs.size + 1)) { s with heap := h' }) :
    wpAny (model prog w) A (call (.type "enumerate") [.ref t]) Q E s := by
  obtain ⟨⟨c, dct, dt, sl⟩, hl, hc, n, hd⟩ := hT
  obtain rfl : c = .type "tuple" := hc
  obtain rfl : dt = .seq its n := hd
  refine callType_new F.called_enumerate (by decide) (F.typeCall_enumerate_1 _) (F.newCall_enumerate_1 _) (fun obj => F.args_object_init_2 obj _) F.entry_enumerate_new (meets_enum_tup t its n dct sl) ⟨hl, ?_⟩
  have hz : (s.heap.push { cls := .type "tuple_iterator", data := .fields #[.ref t, .int 0 0] }).objs.size = s.heap.objs.size + 1 := Heap.size_push ..
  show _ ∧ _
  rw [hz]
  have he : IsEnum ((s.heap.push { cls := .type "tuple_iterator", data := .fields #[.ref t, .int 0 0] }).push { cls := .type "enumerate", data := .fields #[.none, .bool false, .ref s.heap.objs.size, rawInt 0, .none, .none] }) (s.heap.objs.size + 1) s.heap.objs.size 0 .none := by
    have q := Heap.get?_push_size (s.heap.push { cls := .type "tuple_iterator", data := .fields #[.ref t, .int 0 0] }) (o := { cls := .type "enumerate", data := .fields #[.none, .bool false, .ref s.heap.objs.size, rawInt 0, .none, .none] }) rfl
    rw [hz] at q
    exact q
  exact ⟨⟨_, he, rfl⟩, k _ he ⟨_, Heap.get?_push_of_some _ (Heap.get?_push_size _ rfl), rfl, rfl⟩ (by rw [Heap.size_push, hz]) fun b o y => Heap.get?_push_of_some _ (Heap.get?_push_of_some _ y)⟩
end
end XL
end PySem
end
section
set_option Elab.async false
set_option linter.all false
set_option maxRecDepth 100000
set_option maxHeartbeats 2000000
namespace L2
open PySem PySem.Spec PyProof.Rows PySem.XL
/-! ### a thing told by its one object -/
def one (x : Addr) (P : Obj → Prop) : HO := .ext fun h => ∃ o, h.get? x = some o ∧ P o
theorem one_ok {Pr : Program} {w : World} {H : Hp} {h : Heap} {x : Addr} {P : Obj → Prop} {o : Obj} (e : h.get? x = some o) (p : P o) : ObjOk Pr w H h x (one x P) :=
  ⟨⟨o, e, p⟩, ⟨o, e⟩, fun _ _ ⟨o, e, p⟩ k => ⟨o, k o e, p⟩⟩
theorem one_at {Pr : Program} {w : World} {H : Hp} {h : Heap} {x : Addr} {P : Obj → Prop} (hok : HOk Pr w H h) (e : H x = some (one x P)) : ∃ o, h.get? x = some o ∧ P o := (hok x _ e).1
/-- an exception of the class at C, its dict, its traceback -/
def excP (C : Addr) (od : Option Addr) (tv : Value) (o : Obj) : Prop := o.cls = .ref C ∧ o.dict = od ∧ ∃ vs, o.data = .fields vs ∧ vs[1]? = some tv
def exc (C : Addr) (od : Option Addr) (tv : Value) (x : Addr) : HO := one x (excP C od tv)
/-- a traceback's entry, in flight as fl says -/
def entP (fl : Value) (o : Obj) : Prop := ∃ ts, o.data = .fields ts ∧ ts[3]? = some fl
def ent (fl : Value) (T : Addr) : HO := one T (entP fl)
/-! ### an own class straight under Exception -/
abbrev excMro : List Value := [.type "Exception", .type "BaseException", .type "object"]
def xcIn (K : PySem.W.Frag) (C : Addr) : Option Addr := match K.lookup C with
  | some ⟨.type "type", _, .cls cd, sl⟩ => (match cd.mro, sl.toList with
    | .ref C' :: bm, [_, _, _, _, some (.builtin n), _] => if (C' == C && (bm == excMro && (n == "Exception.__new__" && (!cd.hasDel && (cd.hasDict && PySem.W.nsOkIn K cd.ns))))) = true then some cd.ns else none
    | _, _ => none)
  | _ => none
structure XC (K : PySem.W.Frag) (C N : Addr) : Prop where
  cl : xcIn K C = some N
  ga : PySem.W.nsIn K N "__getattribute__" = some none
  gt : PySem.W.nsIn K N "__getattr__" = some none
  sa : PySem.W.nsIn K N "__setattr__" = some none
theorem XC.obj {K : PySem.W.Frag} {C N : Addr} (c : XC K C N) : ∃ nm q bs sn sub ab col dd k0 k1 k2 k3 k5, ∀ h : Heap, K.In h → h.get? C = some (excClassObj nm q C N bs excMro true sn sub ab col dd k0 k1 k2 k3 k5 "Exception.__new__") ∧ h.Ns N (h.nsMap N) ∧
    h.nsMap N "__getattribute__" = none ∧ h.nsMap N "__getattr__" = none ∧ h.nsMap N "__setattr__" = none := by
  have e := c.cl
  unfold xcIn at e
  split at e
  · rename_i dd cd sl ho
    split at e
    · rename_i C' bm k0 k1 k2 k3 n k5 hm hs
      split at e
      · rename_i q
        simp only [Bool.and_eq_true, beq_iff_eq, Bool.not_eq_true'] at q
        obtain ⟨rfl, rfl, rfl, hdel, hdc, hok⟩ := q
        have eN : cd.ns = N := Option.some.inj e
        obtain ⟨nm, bs, mro, ns, qn, hd, sn, sub, ab, col, del⟩ := cd
        dsimp only at hm hdel hdc hok eN
        subst hm hdel hdc eN
        have hsl : sl = #[k0, k1, k2, k3, some (.builtin "Exception.__new__"), k5] := by
          obtain ⟨l⟩ := sl
          simp only at hs
          rw [hs]
        subst hsl
        exact ⟨nm, qn, bs, sn, sub, ab, col, dd, k0, k1, k2, k3, k5, fun h X => ⟨X _ _ ho, .of_isNs (PySem.W.isNs_of_in X hok), PySem.W.nsMap_none_of_in X hok c.ga, PySem.W.nsMap_none_of_in X hok c.gt, PySem.W.nsMap_none_of_in X hok c.sa⟩⟩
      · cases e
    · cases e
  · cases e
theorem exc_map {C : Addr} {od : Option Addr} {tv : Value} {o : Obj} (p : excP C od tv o) (T : Addr) : excP C od (.ref T) (o.mapFields (·.setIfInBounds 1 (.ref T))) := by
  obtain ⟨h1, h2, vs, h3, h4⟩ := p
  have z : 1 < vs.size := (Array.getElem?_eq_some_iff.mp h4).1
  refine ⟨(Obj.cls_mapFields _ _).trans h1, ?_, _, Obj.data_mapFields h3 _, by simp [z]⟩
  obtain ⟨c, d, dt, sl⟩ := o
  cases dt <;> first | exact h2 | cases h3
/-! ### things told by their one object change -/
theorem hok_ext {P : Program} {w : World} {H H2 : Hp} {h h2 : Heap} (S : List Addr) (hok : HOk P w H h) (same : ∀ b, b ∉ S → H2 b = H b)
    (old : ∀ b, b ∈ S → H b = none ∨ ∃ φ, H b = some (.ext φ)) (new : ∀ b, b ∈ S → ∀ u, H2 b = some u → ObjOk P w H2 h2 b u)
    (keep : ∀ b o u, H b = some u → b ∉ S → h.get? b = some o → h2.get? b = some o) : HOk P w H2 h2 := fun b u q => by
  by_cases hb : b ∈ S
  · exact new b hb u q
  · rw [same b hb] at q
    have nS : ∀ c v, H c = some v → (∀ φ, v ≠ .ext φ) → c ∉ S := fun c v e ne z => by
      rcases old c z with r | ⟨φ, r⟩
      · rw [r] at e; cases e
      · rw [r] at e; cases e; exact ne φ rfl
    refine (hok b u q).stay (fun c v hc g => ?_) (fun c e => ?_) fun c xs e => ?_
    · rcases hc with rfl | hc
      · exact keep c v u q hb g
      · exact keep c v _ hc (nS c _ hc (fun φ z => by cases z)) g
    · rw [same c (nS c _ e (fun φ z => by cases z))]; exact e
    · rw [same c (nS c _ e (fun φ z => by cases z))]; exact e
theorem un_ext {fs : List Addr} {H H2 : Hp} {h h2 : Heap} (S : List Addr) (same : ∀ b, b ∉ S → H2 b = H b)
    (old : ∀ b, b ∈ S → (H b = none ∧ h.get? b = none) ∨ ∃ φ, H b = some (.ext φ))
    (keep : ∀ b o, b ∉ S → b ∉ fs → h.get? b = some o → h2.get? b = some o) (slot : ∀ b o, b ∉ S → b ∈ fs → h.get? b = some o → ∃ sl, h2.get? b = some { o with slots := sl })
    (there : ∀ b, b ∈ S → ∀ o, h.get? b = some o → ∃ o', h2.get? b = some o') : Un fs [] H H2 h h2 := by
  have nS : ∀ b o, h.get? b = some o → H b = none → b ∉ S := fun b o e n z => by
    rcases old b z with ⟨_, r⟩ | ⟨φ, r⟩
    · rw [r] at e; cases e
    · rw [r] at n; cases n
  have nS2 : ∀ c v, H c = some v → (∀ φ, v ≠ .ext φ) → c ∉ S := fun c v e ne z => by
    rcases old c z with ⟨r, _⟩ | ⟨φ, r⟩
    · rw [r] at e; cases e
    · rw [r] at e; cases e; exact ne φ rfl
  refine ⟨fun b o e n nb _ => keep b o (nS b o e n) nb e, fun b o e n nb _ => slot b o (nS b o e n) nb e, fun b o e n _ => by rw [same b (nS b o e n)]; exact n, fun b o e _ => ?_,
    fun b xs e => by rw [same b (nS2 b _ e (fun φ z => by cases z))]; exact e, fun b o u e => by rw [same b (nS2 b _ e (fun φ z => by cases z))]; exact e, fun b ps e => ⟨#[], by rw [same b (nS2 b _ e (fun φ z => by cases z)), e]; simp⟩⟩
  by_cases hb : b ∈ S
  · exact there b hb o e
  · by_cases hf : b ∈ fs
    · obtain ⟨sl, q⟩ := slot b o hb hf e
      exact ⟨_, q⟩
    · exact ⟨o, keep b o hb hf e⟩
/-! ### an exception that flies: a where it lies, H0 the heap as it was raised -/
def Kp (a : Addr) (H0 H : Hp) : Prop := ∀ b o, H0 b = some o → b ≠ a → H b = some o
def FlyAt (H0 : Hp) (a C : Addr) (od : Option Addr) (H : Hp) : Prop := ∃ tv, H a = some (exc C od tv a) ∧ Kp a H0 H ∧ (tv = .none ∨ ∃ T fl, tv = .ref T ∧ T ≠ a ∧ H0 T = none ∧ H T = some (ent fl T))
def FlyOn (fl : Value) (H0 : Hp) (a C : Addr) (od : Option Addr) (H : Hp) : Prop := ∃ T, H a = some (exc C od (.ref T) a) ∧ Kp a H0 H ∧ T ≠ a ∧ H0 T = none ∧ H T = some (ent fl T)
theorem FlyOn.at_ {fl : Value} {H0 : Hp} {a C : Addr} {od : Option Addr} {H : Hp} (f : FlyOn fl H0 a C od H) : FlyAt H0 a C od H :=
  let ⟨T, h1, h2, h3, h4, h5⟩ := f
  ⟨_, h1, h2, .inr ⟨T, fl, rfl, h3, h4, h5⟩⟩
theorem note_frame {x : Value} {e e' : Env} (h : e.frame = e'.frame) : noteFrame x e = noteFrame x e' := by
  unfold noteFrame PySem.frameOf
  rw [h]
theorem ext_one {x : Addr} {P : Obj → Prop} {H : Hp} (e : H x = some (one x P)) : ∃ φ, H x = some (.ext φ) := ⟨_, e⟩
section
variable {X : Cx} {pins : List (Addr × Obj)} {σ : St} {H H0 : Hp} {s : Shared} {A : Around} {E : Value → Shared → Prop} {a C : Addr} {od : Option Addr}
theorem note_fly {Q : Unit → Shared → Prop} {env en : Env} {outer : List Env} {L : Addr} (hst : X.stack = env :: outer) (hfL : env.frame = some L) (hen : en.frame = some L) (hA : A.frames = some X.stack) (I : Inv X pins σ H s) (f : FlyAt H0 a C od H)
    (k : ∀ s' H', Inv X pins σ H' s' → FlyOn (rawInt L) H0 a C od H' → Q () s') : wpAny (model X.prog X.w) A (noteFrame (.ref a) en) Q E s := by
  rw [note_frame (hen.trans hfL.symm)]
  obtain ⟨tv, ha, kp, f⟩ := f
  obtain ⟨o, ge, pe⟩ := one_at I.hok ha
  obtain ⟨q1, q2, vs, q3, q4⟩ := id pe
  have ff : s.heap.FunFrames X.base (env :: outer) := by rw [← hst]; exact I.stack
  have fs' : A.frames = some (env :: outer) := by rw [← hst]; exact hA
  have fre : frs X.stack = (env :: outer).filterMap (·.frame) := by rw [hst]; rfl
  rcases f with rfl | ⟨T0, fl, rfl, h1, h2, h3⟩
  · refine note_first (z := a) fs' ff hfL ge q3 q4 fun h' T n => ?_
    rw [← fre] at n
    have hT : H T = none := I.hok.fresh n.new
    have gT : s.heap.get? T = none := Heap.get?_none_of_le n.new
    have pe' := exc_map pe T
    have hH : ∀ b, b ∉ [a, T] → (upd (upd H a (exc C od (.ref T) a)) T (ent (rawInt L) T)) b = H b := fun b nb => by
      have : b ≠ a ∧ b ≠ T := by simpa using nb
      rw [upd_ne this.2, upd_ne this.1]
    have hTT : (upd (upd H a (exc C od (.ref T) a)) T (ent (rawInt L) T)) T = some (ent (rawInt L) T) := upd_same
    have haa : (upd (upd H a (exc C od (.ref T) a)) T (ent (rawInt L) T)) a = some (exc C od (.ref T) a) := by rw [upd_ne (Ne.symm n.ne), upd_same]
    obtain ⟨oT, ts, t1, t2, t3⟩ := n.ent
    have kpT : H0 T = none := by
      cases e : H0 T with
      | none => rfl
      | some u => rw [kp T u e n.ne] at hT; cases hT
    refine k { s with heap := h' } (upd (upd H a (exc C od (.ref T) a)) T (ent (rawInt L) T)) (I.call' (s' := { s with heap := h' }) (ch := []) rfl (un_ext [a, T] hH (fun b hb => ?_) (fun b o nb nf g => ?_) (fun b o nb nf g => ?_) fun b hb o g => ?_) (hok_ext [a, T] I.hok hH (fun b hb => ?_) (fun b hb u hu => ?_) fun b o u hb nb g => ?_) I.bare (fun b z => absurd z (by simp)))
      ⟨T, haa, fun b o e nb => ?_, n.ne, kpT, hTT⟩
    · have : b = a ∨ b = T := by simpa using hb
      rcases this with rfl | rfl
      · exact .inr (ext_one ha)
      · exact .inl ⟨hT, gT⟩
    · have : b ≠ a ∧ b ≠ T := by simpa using nb
      exact n.keep b o nf this.1 this.1 g
    · have : b ≠ a ∧ b ≠ T := by simpa using nb
      exact n.slot b o nf this.1 this.1 g
    · have : b = a ∨ b = T := by simpa using hb
      rcases this with rfl | rfl
      · exact ⟨_, n.exc⟩
      · exact ⟨_, t1⟩
    · have : b = a ∨ b = T := by simpa using hb
      rcases this with rfl | rfl
      · exact .inr (ext_one ha)
      · exact .inl hT
    · have : b = a ∨ b = T := by simpa using hb
      rcases this with rfl | rfl
      · rw [haa] at hu
        cases hu
        exact one_ok n.exc pe'
      · rw [hTT] at hu
        cases hu
        exact one_ok t1 ⟨ts, t2, t3⟩
    · have : b ≠ a ∧ b ≠ T := by simpa using nb
      exact n.keep b o (fun z => by rw [I.stkFree b z] at hb; cases hb) this.1 this.1 g
    · rw [upd_ne (fun z => by rw [z, kpT] at e; cases e), upd_ne nb]
      exact kp b o e nb
  · cases h4 : (fl == rawInt L) with
    | false =>
      obtain ⟨oz, gz, zs, dz, z3⟩ := one_at I.hok h3
      refine note_next fs' ff hfL ge q3 q4 gz dz z3 h4 h1 fun h' T n tz kz => ?_
      rw [← fre] at n
      have hT : H T = none := I.hok.fresh n.new
      have gT : s.heap.get? T = none := Heap.get?_none_of_le n.new
      have pe' := exc_map pe T
      have hH : ∀ b, b ∉ [a, T, T0] → (upd (upd (upd H T0 (ent .none T0)) a (exc C od (.ref T) a)) T (ent (rawInt L) T)) b = H b := fun b nb => by
        have : b ≠ a ∧ b ≠ T ∧ b ≠ T0 := by simpa using nb
        rw [upd_ne this.2.1, upd_ne this.1, upd_ne this.2.2]
      have hTT : (upd (upd (upd H T0 (ent .none T0)) a (exc C od (.ref T) a)) T (ent (rawInt L) T)) T = some (ent (rawInt L) T) := upd_same
      have haa : (upd (upd (upd H T0 (ent .none T0)) a (exc C od (.ref T) a)) T (ent (rawInt L) T)) a = some (exc C od (.ref T) a) := by rw [upd_ne (Ne.symm n.ne), upd_same]
      have hT0 : (upd (upd (upd H T0 (ent .none T0)) a (exc C od (.ref T) a)) T (ent (rawInt L) T)) T0 = some (ent .none T0) := by rw [upd_ne (Ne.symm tz), upd_ne h1]; exact upd_same
      obtain ⟨oT, ts, t1, t2, t3⟩ := n.ent
      obtain ⟨oz', zs', z1', z2', z3'⟩ := kz
      have kpT : H0 T = none := by
        cases e : H0 T with
        | none => rfl
        | some u => rw [kp T u e n.ne] at hT; cases hT
      refine k { s with heap := h' } (upd (upd (upd H T0 (ent .none T0)) a (exc C od (.ref T) a)) T (ent (rawInt L) T)) (I.call' (s' := { s with heap := h' }) (ch := []) rfl (un_ext [a, T, T0] hH (fun b hb => ?_) (fun b o nb nf g => ?_) (fun b o nb nf g => ?_) fun b hb o g => ?_) (hok_ext [a, T, T0] I.hok hH (fun b hb => ?_) (fun b hb u hu => ?_) fun b o u hb nb g => ?_) I.bare (fun b z => absurd z (by simp)))
        ⟨T, haa, fun b o e nb => ?_, n.ne, kpT, hTT⟩
      · have : b = a ∨ b = T ∨ b = T0 := by simpa using hb
        rcases this with rfl | rfl | rfl
        · exact .inr (ext_one ha)
        · exact .inl ⟨hT, gT⟩
        · exact .inr (ext_one h3)
      · have : b ≠ a ∧ b ≠ T ∧ b ≠ T0 := by simpa using nb
        exact n.keep b o nf this.1 this.2.2 g
      · have : b ≠ a ∧ b ≠ T ∧ b ≠ T0 := by simpa using nb
        exact n.slot b o nf this.1 this.2.2 g
      · have : b = a ∨ b = T ∨ b = T0 := by simpa using hb
        rcases this with rfl | rfl | rfl
        · exact ⟨_, n.exc⟩
        · exact ⟨_, t1⟩
        · exact ⟨_, z1'⟩
      · have : b = a ∨ b = T ∨ b = T0 := by simpa using hb
        rcases this with rfl | rfl | rfl
        · exact .inr (ext_one ha)
        · exact .inl hT
        · exact .inr (ext_one h3)
      · have : b = a ∨ b = T ∨ b = T0 := by simpa using hb
        rcases this with rfl | rfl | rfl
        · rw [haa] at hu
          cases hu
          exact one_ok n.exc pe'
        · rw [hTT] at hu
          cases hu
          exact one_ok t1 ⟨ts, t2, t3⟩
        · rw [hT0] at hu
          cases hu
          exact one_ok z1' ⟨zs', z2', z3'⟩
      · have : b ≠ a ∧ b ≠ T ∧ b ≠ T0 := by simpa using nb
        exact n.keep b o (fun z => by rw [I.stkFree b z] at hb; cases hb) this.1 this.2.2 g
      · rw [upd_ne (fun z => by rw [z, kpT] at e; cases e), upd_ne nb, upd_ne (fun z => by rw [z, h2] at e; cases e)]
        exact kp b o e nb
    | true =>
      have h4 : fl = rawInt L := eq_of_beq h4
      subst h4
      obtain ⟨oz, gz, zs, dz, z3⟩ := one_at I.hok h3
      exact wpAny_noteFrame_inFlight hfL ge q3 q4 gz dz z3 (k s H I ⟨T0, ha, kp, h1, h2, h3⟩)
theorem fly_set {Q : Unit → Shared → Prop} {fl : Value} (fr : Option Addr) (I : Inv X pins σ H s) (f : FlyOn fl H0 a C od H)
    (k : ∀ s' H', Inv X pins σ H' s' → FlyOn (fr.elim .none fun f => rawInt f) H0 a C od H' → Q () s') : wpAny (model X.prog X.w) A (setFlight (.ref a) fr) Q E s := by
  obtain ⟨T, ha, kp, hne, kpT, hT⟩ := f
  obtain ⟨o, ge, q1, q2, vs, q3, q4⟩ := one_at I.hok ha
  obtain ⟨oz, gz, zs, dz, z3⟩ := one_at I.hok hT
  have zz : 3 < zs.size := (Array.getElem?_eq_some_iff.mp z3).1
  unfold setFlight
  refine wpAny_bind (wpAny_field ge q3 q4 ?_)
  rw [if_pos (show (Value.ref T != Value.none) = true by simp)]
  refine wpAny_setField gz dz zz ?_
  have oth : ∀ b, b ≠ T → (s.heap.update T (Obj.mapFields (·.setIfInBounds 3 (fr.elim .none fun f => rawInt f)))).get? b = s.heap.get? b := fun b n => Heap.get?_update_other _ _ (Ne.symm n)
  have gT : (s.heap.update T (Obj.mapFields (·.setIfInBounds 3 (fr.elim .none fun f => rawInt f)))).get? T = _ := Heap.get?_update_self _ gz (Obj.isFreed_of_fields (Obj.data_mapFields dz _))
  have pT : entP (fr.elim .none fun f => rawInt f) (oz.mapFields (·.setIfInBounds 3 (fr.elim .none fun f => rawInt f))) := ⟨_, Obj.data_mapFields dz _, by simp [zz]⟩
  have hH : ∀ b, b ∉ [T] → (upd H T (ent (fr.elim .none fun f => rawInt f) T)) b = H b := fun b nb => by
    have : b ≠ T := by simpa using nb
    rw [upd_ne this]
  refine k { s with heap := s.heap.update T (Obj.mapFields (·.setIfInBounds 3 (fr.elim .none fun f => rawInt f))) } (upd H T (ent (fr.elim .none fun f => rawInt f) T)) (I.call' (s' := { s with heap := s.heap.update T (Obj.mapFields (·.setIfInBounds 3 (fr.elim .none fun f => rawInt f))) }) (ch := []) rfl (un_ext [T] hH (fun b hb => ?_) (fun b o nb nf g => ?_) (fun b o nb nf g => ?_) fun b hb o g => ?_) (hok_ext [T] I.hok hH (fun b hb => ?_) (fun b hb u hu => ?_) fun b o u hb nb g => ?_) I.bare (fun b z => absurd z (by simp)))
      ⟨T, ?_, fun b o e nb => ?_, hne, kpT, upd_same⟩
  · have : b = T := by simpa using hb
    subst this
    exact .inr (ext_one hT)
  · have : b ≠ T := by simpa using nb
    exact (oth b this).trans g
  · have : b ≠ T := by simpa using nb
    exact ⟨o.slots, (oth b this).trans g⟩
  · have : b = T := by simpa using hb
    subst this
    exact ⟨_, gT⟩
  · have : b = T := by simpa using hb
    subst this
    exact .inr (ext_one hT)
  · have : b = T := by simpa using hb
    subst this
    rw [upd_same] at hu
    cases hu
    exact one_ok gT pT
  · have : b ≠ T := by simpa using nb
    exact (oth b this).trans g
  · rw [upd_ne (Ne.symm hne)]
    exact ha
  · rw [upd_ne (fun z => by rw [z, kpT] at e; cases e)]
    exact kp b o e nb
end
/-! ### how an exception lies behind a call; what a body wishes of one -/
def CXf (P : Program) (w : World) : CXT := fun outer H s E e s' => ∃ a C od H0 H', e = .ref a ∧ s'.os = s.os ∧ AllBare s'.gens ∧ Un (frs outer) [] H H' s.heap s'.heap ∧ HOk P w H' s'.heap ∧ FlyOn .none H0 a C od H' ∧ (∀ d, od = some d → d ≠ a) ∧ E (.ref C) od H0
def FlyW (X : Cx) (E : XK) (e : Value) (s : Shared) : Prop := ∃ a C od H0 H σ, e = .ref a ∧ Inv X [] σ H s ∧ FlyAt H0 a C od H ∧ (∀ d, od = some d → d ≠ a) ∧ E (.ref C) od H0
abbrev Cx.fly (X : Cx) (E : XK) : Cx := X.wish (FlyW X E)
/-- a def's own frame stands on top -/
def Cx.Own (X : Cx) : Prop := X.stack = X.env :: X.outer ∧ X.env.frame = some X.env.locals
theorem Inv.bare_pins {X : Cx} {pins : List (Addr × Obj)} {σ : St} {H : Hp} {s : Shared} (I : Inv X pins σ H s) : Inv X [] σ H s := I.pins_of fun p hp => absurd hp (by simp)
theorem passes_fly {X : Cx} {E : XK} : Passes (CXf X.prog X.w) (X.fly E) E := fun pins σ H s e s' I h => by
  obtain ⟨a, C, od, H0, H', e1, e2, e3, e4, e5, e6, e7, e8⟩ := h
  exact ⟨a, C, od, H0, H', σ, e1, (I.unwish.call' (ch := []) e2 e4 e5 e3 (fun b z => absurd z (by simp))).bare_pins, e6.at_, e7, e8⟩
theorem own_fly {X : Cx} {E : XK} (ow : X.Own) : PassesOwn (model X.prog X.w) X.A X.env (FlyW X E) := fun e s h => by
  obtain ⟨a, C, od, H0, H, σ, rfl, I, f, e7, e8⟩ := h
  show wpAny _ _ (noteFrame _ _) _ _ s
  refine note_fly ow.1 ow.2 ow.2 I.ok.frames I f fun s' H' I' f' => ?_
  obtain ⟨T, ha, _⟩ := id f'
  obtain ⟨o, ge, q1, q2, vs, q3, q4⟩ := one_at I'.hok ha
  show wpAny _ _ (field (.ref a) 1 >>= _) _ _ s'
  refine wpAny_bind (wpAny_field ge q3 q4 ?_)
  rw [if_neg (show ¬ (Value.ref T == Value.none) = true from Bool.false_ne_true)]
  refine fly_set X.env.frame I' f' fun s'' H'' I'' f'' => ?_
  exact ⟨a, C, od, H0, H'', σ, rfl, I'', f''.at_, e7, e8⟩
theorem cxOf_own {CX : CXT} {P : Program} {w : World} {K : PySem.W.Frag} {mg : Str → Option Value} {base : Heap} {N : List Str} {qual : Str} {scope : Scope} {f : Addr} {cd : Value} {A : Around} {outer : List Env} {s : Shared} {H : Hp} {E : XK} :
    (cxOf CX P w K mg base N qual scope f cd A outer s H E).Own := ⟨rfl, rfl⟩
theorem leave_fly {P : Program} {w : World} {K : PySem.W.Frag} {mg : Str → Option Value} {base : Heap} {N : List Str} {qual : Str} {scope : Scope} {f : Addr} {cd : Value} {A : Around} {outer : List Env} {s : Shared} {H : Hp} {E : XK} {e : Value} {s1 : Shared}
    (h : FlyW (cxOf (CXf P w) P w K mg base N qual scope f cd A outer s H E) E e s1) : (cxOf (CXf P w) P w K mg base N qual scope f cd A outer s H E).xe e s1 := by
  obtain ⟨a, C, od, H0, H1, σ, rfl, I, f, e7, e8⟩ := h
  show wpAny _ _ (leaving _ _) _ _ s1
  unfold leaving
  refine wpAny_bind (note_fly (X := cxOf (CXf P w) P w K mg base N qual scope _ cd A outer s H E) cxOf_own.1 cxOf_own.2 cxOf_own.2 I.ok.frames I f fun s' H' I' f' => ?_)
  refine fly_set (X := cxOf (CXf P w) P w K mg base N qual scope _ cd A outer s H E) none I' f' fun s'' H'' I'' f'' => ?_
  exact ⟨a, C, od, H0, H'', rfl, I''.os, I''.bare, I''.base, I''.hok, f'', e7, e8⟩
/-- a def that may raise: its body in the context that wishes E of an exception -/
theorem Fun.okx {P : Program} {w : World} {K : PySem.W.Frag} {mg : Str → Option Value} {base : Heap} {x qual : Str} {st : Stmt} {f : Addr} {fd : FuncData} {N ps : List Str} {k : Nat} {sp : Sp} (F : Fun K x qual st f fd) (S : FnScope N ps (defScope st)) (len : ∀ vs H Q E, sp vs H Q E → vs.length = ps.length)
    (hbody : ∀ (cdv : Value) (A : Around) (outer : List Env) (s : Shared) (H : Hp) (vs : List V) (Q : VK) (E : XK), Room k (A.deeper (envOfC qual (defScope st) s.heap.objs.size f cdv)) → sp vs H Q E →
      ∃ t, PSs ((cxOf (CXf P w) P w K mg base N qual (defScope st) f cdv A outer s H E).fly E) (defBody st) t ∧ t { nx := fun _ H' => Q .non H', rt := Q } (start N vs) H) : FnOk P w K mg base (CXf P w) (k + 1) f fd ps sp := by
  obtain ⟨oc, od, kV, doc, pm, an, cdv, ct, osl, rfl, lk, hcd⟩ := F.ex
  refine fn_of lk hcd S len fun A outer s H vs Q E hr hsp => ?_
  obtain ⟨t, h, q⟩ := hbody cdv A outer s H vs Q E hr hsp
  exact ⟨t, fun pins s1 σ H1 D I hw => wpAny_mono (h pins s1 σ H1 D (I.wish _) hw) (fun _ _ q => q.unwish) fun e s2 z => leave_fly z, q⟩
/-! ### raise -/
def tRaise (E : XK) (C : Addr) (te : TE) : TS := fun _ σ H => te σ H fun v H1 => ∃ a od, v = .ref a ∧ H1 a = some (exc C od .none a) ∧ (∀ d, od = some d → d ≠ a) ∧ E (.ref C) od H1
theorem ps_raise {X : Cx} {E : XK} {e : Expr} {te : TE} {C N : Addr} {pos : Pos} (hh : X.A.handled = none) (c : XC X.K C N) (he : PE (X.fly E) e te) : PS (X.fly E) (.Raise (some e) none pos) (tRaise E C te) := by
  intro pins s σ H D I h
  obtain ⟨nm, q, bs, sn, sub, ab, col, dd, k0, k1, k2, k3, k5, cls⟩ := c.obj
  rw [arm_exec_Raise]
  refine wpAny_bind (wpAny_standAt (raiseStmt_inst (C := C) (nm := nm) (q := q) (N := N) (bs := bs) (bm := excMro) (hdct := true) (sn := sn) (sub := sub) (ab := ab) (col := col) (dd := dd) (k0 := k0) (k1 := k1) (k2 := k2) (k3 := k3) (k5 := k5) (newId := "Exception.__new__") (by decide) hh
    (wpAny_bind (thn (he pins s σ H _ I h) fun u s1 ⟨v, H1, I1, rv, a, od, ev, ha, hd, xr⟩ => wpAny_bind (wpAny_standAt (wpAny_pure ?_))))))
  subst ev
  obtain rfl : u = Value.ref a := rv
  obtain ⟨o, ge, q1, q2, vs, q3, q4⟩ := one_at I1.hok ha
  exact ⟨a, o, vs, rfl, (cls _ I1.kIn).1, ge, q1, q3, q4, a, C, od, H1, H1, σ, rfl, I1.unwish.bare_pins, ⟨.none, ha, fun b o e _ => e, .inl rfl⟩, hd, xr⟩
end L2
end
section
set_option Elab.async false
set_option linter.all false
set_option maxRecDepth 100000
set_option maxHeartbeats 2000000
namespace L2
open PySem PySem.Spec PyProof.Rows PySem.XL
/-- the heap changes at things told by their one object, the frames stay -/
theorem Inv.extd {X : Cx} {pins : List (Addr × Obj)} {σ : St} {H H2 : Hp} {s : Shared} {h2 : Heap} {t2 : Nat} (S : List Addr) (I : Inv X pins σ H s) (same : ∀ b, b ∉ S → H2 b = H b)
    (old : ∀ b, b ∈ S → (H b = none ∧ s.heap.get? b = none) ∨ ∃ φ, H b = some (.ext φ)) (new : ∀ b, b ∈ S → ∀ u, H2 b = some u → ObjOk X.prog X.w H2 h2 b u)
    (keep : ∀ b o, b ∉ S → s.heap.get? b = some o → h2.get? b = some o) (there : ∀ b, b ∈ S → ∀ o, s.heap.get? b = some o → ∃ o', h2.get? b = some o') : Inv X pins σ H2 { s with heap := h2, toks := t2 } :=
  I.call' (s' := { s with heap := h2, toks := t2 }) (ch := []) rfl (un_ext S same old (fun b o nb _ g => keep b o nb g) (fun b o nb _ g => ⟨o.slots, keep b o nb g⟩) there)
    (hok_ext S I.hok same (fun b hb => (old b hb).imp (·.1) id) new fun b o u _ nb g => keep b o nb g) I.bare (fun b z => absurd z (by simp))
theorem xc_ns {K : PySem.W.Frag} {C N : Addr} (c : XC K C N) : PySem.W.nsOkIn K N = true := by
  have e := c.cl
  unfold xcIn at e
  split at e
  · split at e
    · split at e
      · rename_i q
        simp only [Bool.and_eq_true, beq_iff_eq, Bool.not_eq_true'] at q
        rw [← Option.some.inj e]
        exact q.2.2.2.2.2
      · cases e
    · cases e
  · cases e
section
variable {X : Cx} {CX : CXT} {k : Nat} {f C N : Addr} {fd : FuncData} {ps : List Str} {sp : Sp} {dvs : List V} {ds : List Value} {E : XK} {x m : Str} {p pos apos : Pos} {e o : Expr} {es : List Expr} {ta tv te : TE} {t : TA}
/-! ### Exception.__init__(self) -/
/-! ### attributes of an exception -/
end
end L2
end
section
set_option Elab.async false
set_option linter.all false
set_option maxRecDepth 100000
set_option maxHeartbeats 2000000
namespace L2
open PySem PySem.Spec PyProof.Rows PySem.XL
/-! ### within an except suite -/
abbrev Cx.inX (X : Cx) (a : Addr) : Cx := { X with A := X.A.mark (some (.ref a)), calm := false, xe := fun _ _ => False }
theorem Cx.Ok.inX {X : Cx} (ok : X.Ok) (a : Addr) : (X.inX a).Ok :=
  ⟨ok.mod, ok.kind, ok.glob, ok.blt, ok.above, ok.inj, ok.has, ok.cab, fun h => (by cases h), ok.frames, ok.stk, ok.exf, ok.bs, ok.bsz, ok.noex, ok.exfs, ok.funs, ok.frf⟩
theorem Inv.inX {X : Cx} {pins : List (Addr × Obj)} {σ : St} {H : Hp} {s : Shared} (I : Inv X pins σ H s) (a : Addr) : Inv (X.inX a) pins σ H s := ⟨I.ok.inX a, I.os, I.bare, I.base, I.loc, I.cell, I.free, I.freeC, I.pin, I.hok, I.len⟩
theorem Inv.outX {X : Cx} {pins : List (Addr × Obj)} {σ : St} {H : Hp} {s : Shared} {a : Addr} (ok : X.Ok) (I : Inv (X.inX a) pins σ H s) : Inv X pins σ H s := ⟨ok, I.os, I.bare, I.base, I.loc, I.cell, I.free, I.freeC, I.pin, I.hok, I.len⟩
/-! ### does a clause take it -/
theorem matches_other {M : Model} {A : Around} {E : Value → Shared → Prop} {nm q nm' q' : Str} {C N C1 N1 : Addr} {bs bs' : List Value} {hdct hdct' : Bool} {sn sn' : List Str} {sub sub' : List Value} {ab ab' : Bool} {col col' : Option Bool} {dd dd' : Option Addr} {k0 k1 k2 k3 k5 k0' k1' k2' k3' k5' : Option Value} {newId newId' : String}
    {h : Heap} {g : Array GenState} {d : Drawn} {t : Nat} {os : OsState} {e : Addr} {oe : Obj} {Q : Bool → Shared → Prop}
    (hC : h.get? C = some (excClassObj nm q C N bs excMro hdct sn sub ab col dd k0 k1 k2 k3 k5 newId)) (hC1 : h.get? C1 = some (excClassObj nm' q' C1 N1 bs' excMro hdct' sn' sub' ab' col' dd' k0' k1' k2' k3' k5' newId'))
    (he : h.get? e = some oe) (hcls : oe.cls = .ref C) (ne : C ≠ C1)
    (hq : Q false ⟨h, g, d, t, os⟩) : wpAny M A (excMatches (.ref e) (.ref C1)) Q E ⟨h, g, d, t, os⟩ := by
  have hcB : (Value.ref C1 :: excMro).contains (.type "BaseException") = true := by rw [List.contains_cons, show excMro.contains (.type "BaseException") = true by decide, Bool.or_true]
  have hcC : (Value.ref C :: excMro).contains (.ref C1) = false := by
    have : (Value.ref C1 == Value.ref C) = false := beq_eq_false_iff_ne.mpr fun z => ne (by cases z; rfl)
    rw [List.contains_cons, this]
    rfl
  have f := tc_notTuple
  unfold excMatches
  repeat (first | (with_reducible refine wpAny_loadPart_at he ?_; rw [hcls]) | with_reducible refine wpAny_loadPart_at hC1 ?_ | with_reducible refine wpAny_loadPart_at hC ?_ | (with_reducible refine wpAny_isSubtype_exc hC1 ?_; rw [hcB]) | (with_reducible refine wpAny_isSubtype_exc hC ?_; rw [hcC]) | wp_step)
  exact hq
/-! ### clauses -/
abbrev TH := Hp → Addr → Addr → Option Addr → TS
def PH (X : Cx) (hds : List ExceptHandler) (th : TH) : Prop :=
  ∀ (pins : List (Addr × Obj)) (s : Shared) (σ : St) (H H0 : Hp) (a C N : Addr) (od : Option Addr) (D : Ends), Inv X pins σ H s → XC X.K C N → FlyOn .none H0 a C od H → th H0 a C od D σ H →
    wpAny (model X.prog X.w) X.A (handleBy (.ref a) X.env hds) (SP X pins D) X.xe s
def hNil : TH := fun _ _ _ _ _ _ _ => False
theorem ph_nil {X : Cx} : PH X [] hNil := fun _ _ _ _ _ _ _ _ _ _ _ _ _ h => h.elim
def hCons (C1 : Addr) (ts : TS) (th : TH) : TH := fun H0 a C od D σ H => (C = C1 → ∀ H', FlyOn .none H0 a C od H' → ts D σ H') ∧ (C ≠ C1 → th H0 a C od D σ H)
theorem SP.outX {X : Cx} {a : Addr} {pins : List (Addr × Obj)} {D : Ends} {f : Flow} {s' : Shared} (ok : X.Ok) (h : SP (X.inX a) pins D f s') : SP X pins D f s' := by
  cases f with
  | next => obtain ⟨σ', H', I, q⟩ := h; exact ⟨σ', H', I.outX ok, q⟩
  | brk => obtain ⟨σ', H', I, q⟩ := h; exact ⟨σ', H', I.outX ok, q⟩
  | cont => obtain ⟨σ', H', I, q⟩ := h; exact ⟨σ', H', I.outX ok, q⟩
  | ret u => obtain ⟨v, σ', H', I, r, q⟩ := h; exact ⟨v, σ', H', I.outX ok, r, q⟩
section
variable {X : Cx} {C1 N1 : Addr} {x : Str} {p pos : Pos} {b0 : Stmt} {suite : List Stmt} {rest : List ExceptHandler} {ts : TS} {th : TH}
theorem ph_cons (c1 : XC X.K C1 N1) (hg : Gl X x) (hm : X.mg x = some (.ref C1)) (hs : ∀ a, PSs (X.inX a) (b0 :: suite) ts) (hr : PH X rest th) (hdb : (x == ("__debug__" : Str)) = false := by decide) :
    PH X (.ExceptHandler (some (.Name x p)) none (b0 :: suite) pos :: rest) (hCons C1 ts th) := by
  intro pins s σ H H0 a C N od D I c f h
  refine wpAny_handleBy_cons (codeAny_handlers_test (ld_glob (X := X.inX a) (I.inX a) hg hm ?_ hdb)) (by intro q; cases q)
  obtain ⟨nm, qn, bs, sn, sub, ab, col, dd, k0, k1, k2, k3, k5, cls⟩ := c.obj
  obtain ⟨nm', qn', bs', sn', sub', ab', col', dd', k0', k1', k2', k3', k5', cls'⟩ := c1.obj
  obtain ⟨d1, _⟩ := cls s.heap I.kIn
  obtain ⟨d2, _⟩ := cls' s.heap I.kIn
  obtain ⟨T, ha, kp, ne, kpT, hT⟩ := id f
  obtain ⟨o, ge, q1, q2, vs', q3, q4⟩ := one_at I.hok ha
  by_cases e : C = C1
  · subst e
    obtain ⟨hh, g, d, tk, os⟩ := s
    refine wpAny_excMatches_sub_self d1 ge q1 (by decide) ?_
    refine codeAny_handlers_suite ?_
    refine fly_set (X := X) none I f fun s' H' I' f' => ?_
    refine wpAny_mono (hs a pins s' σ H' D (I'.inX a) (h.1 rfl H' f')) (fun fl s2 q => q.outX I'.ok) fun _ _ z => False.elim z
  · obtain ⟨hh, g, d, tk, os⟩ := s
    refine matches_other d1 d2 ge q1 e ?_
    exact hr pins _ σ H H0 a C N od D I c f (h.2 e)
end
/-! ### try -/
def PSx (X : Cx) (body : List Stmt) (tb : XK → TS) : Prop :=
  ∀ (pins : List (Addr × Obj)) (s : Shared) (σ : St) (H : Hp) (D : Ends) (E : XK), Inv X pins σ H s → tb E D σ H → wpAny (model X.prog X.w) X.A (execs body X.env) (SP X pins D)
    (fun e s' => ∃ a C od H0 H', e = .ref a ∧ Inv X pins σ H' s' ∧ FlyOn .none H0 a C od H' ∧ (∀ d, od = some d → d ≠ a) ∧ E (.ref C) od H0) s
/-- what is wanted of an exception that the clauses take: its class is an own one -/
def eTry (K : PySem.W.Frag) (th : TH) (D : Ends) (σ : St) : XK := fun cv od H0 => ∃ C N, cv = .ref C ∧ XC K C N ∧ ∀ a H', (∀ d, od = some d → d ≠ a) → FlyOn .none H0 a C od H' → th H0 a C od D σ H'
def tTry (K : PySem.W.Frag) (tb : XK → TS) (th : TH) : TS := fun D σ H => tb (eTry K th D σ) D σ H
theorem ps_try {X : Cx} {body : List Stmt} {h0 : ExceptHandler} {hs : List ExceptHandler} {pos : Pos} {tb : XK → TS} {th : TH} (ow : X.Own) (hb : PSx X body tb) (hh : PH X (h0 :: hs) th) : PS X (.Try body (h0 :: hs) [] [] pos) (tTry X.K tb th) := by
  intro pins s σ H D I h
  refine wpAny_Try_except (wpAny_mono (hb pins s σ H D _ I h) (fun f s1 q => ?_) fun e s1 q => ?_)
  · cases f with
    | next => exact wpAny_execs_nil q
    | brk => exact q
    | cont => exact q
    | ret v => exact q
  · obtain ⟨a, C, od, H0, H1, rfl, I1, f1, hd, C', N, ec, c, hk⟩ := q
    cases ec
    refine note_fly ow.1 ow.2 ow.2 I1.ok.frames I1 f1.at_ fun s2 H2 I2 f2 => ?_
    refine fly_set none I2 f2 fun s3 H3 I3 f3 => ?_
    exact hh pins s3 σ H3 H0 a C N od D I3 c f3 (hk a H3 hd f3)
section
variable {X : Cx} {k : Nat} {f : Addr} {fd : FuncData} {ps : List Str} {sp : Sp} {x g : Str} {p px pos spos : Pos} {e : Expr} {es : List Expr} {t : TA} {i : Nat}
/-- x = g(..) -/
theorem psx_call (hN : X.N.Nodup) (hi : X.N[i]? = some x) (hx : Loc X.env.scope x) (F : FnOk X.prog X.w X.K X.mg X.base (CXf X.prog X.w) k f fd ps sp) (hr : Room k X.A) (hg : Gl X g) (hm : X.mg g = some (.ref f)) (hk : PySem.W.keepIn X.K (.ref f) = true) (hb : Binds X.K fd ps []) (ha : PA X.nox (e :: es) t)
    (hs : swapsWith (.Call (.Name g p) (e :: es) [] pos) (some (.Name x px)) spos.line X.env = pure false := by rfl) (hf : X.fn x = true ∨ X.env.scope.names.lookup x = some .local := by first | exact .inl rfl | exact .inr rfl | assumption)
    (hdb : (g == ("__debug__" : Str)) = false := by decide) (he : starEach (e :: es) X.env = (false, eval e X.env) :: starEach es X.env := by rfl) (hpl : (backTo pos (starEach es X.env)).any (·.1) = false := by rfl) :
    PSx X [.Assign [.Name x px] (.Call (.Name g p) (e :: es) [] pos) spos] (fun E => tAsg (tCall sp [] E t) (gName i)) := by
  intro pins s σ H D E I h
  have key : wpAny (model X.prog X.w) X.A (eval (.Call (.Name g p) (e :: es) [] pos) X.env) (EP X pins σ fun v H1 => D.nx (σ.set i (some v)) H1) (fun e s' => ∃ a C od H0 H', e = .ref a ∧ Inv X pins σ H' s' ∧ FlyOn .none H0 a C od H' ∧ (∀ d, od = some d → d ≠ a) ∧ E (.ref C) od H0) s := by
    refine wpAny_Call_Name_kw (ld_glob I hg hm ?_ hdb)
    refine PySem.W.callWith_K (h₀ := X.base) I.ok.mod.kin hk (wpAny_mono (ha pos pins s σ H _ (I.wish _) h) (fun us s1 ⟨vs, H1, I1, r, q⟩ => ⟨I1.kIn, ?_⟩) fun _ _ z => False.elim z) he hpl
    have I1 := I1.unwish
    have q : sp (vs ++ []) H1 (fun v H1 => D.nx (σ.set i (some v)) H1) E := q
    rw [List.append_nil] at q
    have hl : us.length = ps.length := by rw [← r.length]; exact F.len _ _ _ _ q
    have bb := hb s1 us I1.kIn (by rw [List.append_nil]; exact hl)
    rw [List.append_nil] at bb
    refine wpAny_call (codeAny_mono (F.run X.A X.stack s1 H1 ⟨us, []⟩ us vs _ E hr I1.env0 bb r q) fun r s' hq => ?_)
    cases r with
    | error e =>
      obtain ⟨a, C, od, H0, H', e1, e2, e3, e4, e5, e6, e7, e8⟩ := hq
      exact ⟨a, C, od, H0, H', e1, I1.call' (ch := []) e2 e4 e5 e3 (fun b z => absurd z (by simp)), e6, e7, e8⟩
    | ok fl =>
      cases fl with
      | ret u => exact I1.after hq
      | next => exact False.elim hq
      | brk => exact False.elim hq
      | cont => exact False.elim hq
  refine wpAny_execs_cons (wpAny_Assign_Name (wpAny_mono key (fun v s1 ⟨y, H1, I1, r1, q1⟩ => ?_) fun _ _ z => z) hs)
  exact store_ok I1 hN hi hx r1 (fun s2 I2 => wpAny_execs_nil ⟨_, H1, I2, q1⟩) hf
end
end L2
end
section
set_option Elab.async false
set_option linter.all false
set_option maxRecDepth 100000
set_option maxHeartbeats 2000000
namespace L2
open PySem PySem.Spec PyProof.Rows PySem.XL
/-! ### enumerate(tuple) -/
def IteT (K : PySem.W.Frag) (a : Addr) : It :=
  ⟨fun i H => ∃ (xs : List V) (x : V), SqT K H a xs ∧ xs[i]? = some x, fun i H v H' => ∃ T x, v = .ref T ∧ H T = none ∧ H' = upd H T (.tup [.int (i : Nat), x]) ∧ ∀ xs, SqT K H a xs → xs[i]? = some x, fun i H => ∃ xs : List V, SqT K H a xs ∧ xs.length = i⟩
theorem isTup_tuple {h : Heap} {a : Addr} {its : Array Value} (x : IsTup h a its) : h.IsTuple a its := x
theorem turn_enumT {P : Program} {w : World} {K : PySem.W.Frag} {elts : List Expr} {kk : Nat} {tpos : Pos} (a e it : Addr) :
    Turn P w K (.Tuple elts kk tpos) (IteT K a) [e, it] e (fun i h => (∃ old, IsEnum h e it ((i : Nat) : Int) old) ∧ h.IsTupleIter it a i ∧ e ≠ it ∧ a ≠ it ∧ a ≠ e) where
  mem := by simp
  obj := fun i h st b hb => by
    obtain ⟨⟨old, he⟩, ⟨o, ho, hc, hd⟩, _⟩ := st
    have e' : b = e ∨ b = it := by simpa using hb
    rcases e' with z | z
    · rw [z]; exact ⟨_, he, fun v q => nomatch q⟩
    · rw [z]; exact ⟨o, ho, fun v q => by rw [hd] at q; cases q⟩
  keep := fun i h h' st k => let ⟨⟨old, he⟩, hi, hne⟩ := st; ⟨⟨old, k e (by simp) _ he⟩, hi.at fun o q => k it (by simp) o q, hne⟩
  item := by
    intro X hP hw hK hc i pins s σ H E I hf st hg
    subst hP hw hK
    obtain ⟨⟨old, he⟩, hit, hne, hai, hae⟩ := st
    obtain ⟨xs, x, hq, hx⟩ := hg
    obtain ⟨its, rv, p, hz⟩ := I.tuple hq
    obtain ⟨u, hu, ru⟩ := rv.get hx
    have hel : e < s.heap.objs.size := Heap.lt_size he
    have hil : it < s.heap.objs.size := by obtain ⟨_, q, _⟩ := hit; exact Heap.lt_size q
    have hh : X.A.in1.handled = none := I.ok.hd hc
    refine wpAny_pyNext_enum_itemD (draws_tup hh it a hai its.toArray) he ⟨hit, isTup_tuple p⟩ (by simpa using (List.getElem?_eq_some_iff.mp hu).1) hne (by simp; exact ⟨hne, Ne.symm hae⟩) fun y h' tk hy ho st' hT hsz hk => ?_
    have ey : y = u := by
      have q : (some u : Option Value) = some y := hu.symm.trans (by simpa using hy)
      exact (Option.some.inj q).symm
    subst ey
    refine ⟨_, rfl, wpAny_letOwnedTupleGo_enum (s := { s with heap := h', toks := tk + 1 }) ho fun h'' he' sb => ?_⟩
    have hT2 : h''.get? s.heap.objs.size = some { cls := .type "tuple", data := .seq #[.int i tk, y] } := (sb.2 _ (Nat.ne_of_gt hel)).trans hT
    have new : ObjOk X.prog X.w (upd H s.heap.objs.size (.tup [.int (i : Nat), x])) h'' s.heap.objs.size (.tup [.int (i : Nat), x]) :=
      ⟨by show 2 ≤ sizeLine; decide, [.int i tk, y], .cons ⟨_, rfl⟩ (.cons ru .nil), ⟨_, hT2, rfl, _, rfl⟩⟩
    have I1 : Inv X pins σ (upd H s.heap.objs.size (.tup [.int (i : Nat), x])) { s with heap := h'', toks := tk + 1 } :=
      I.turnedNew (ch := [e, it]) (fun b ob hb q => (sb.2 b (fun z => hb (by simp [z]))).trans (hk b ob (fun z => hb (by simp [z])) (fun z => hb (by simp [z])) q)) hf (Nat.le_refl _) new
    refine ⟨.ref s.heap.objs.size, _, I1, rfl, ⟨_, x, rfl, I.hok.fresh (Nat.le_refl _), rfl, fun ys hy => by rw [I.tuple_inj hy hq]; exact hx⟩, ⟨⟨y, ?_⟩, st'.1.at fun o q => (sb.2 it (Ne.symm hne)).trans q, hne, hai, hae⟩, fun b hb => ?_⟩
    · have e1 : ((i + 1 : Nat) : Int) = (i : Int) + 1 := by omega
      rw [e1]; exact he'
    · have hb' : b < s.heap.objs.size := by
        have e' : b = e ∨ b = it := by simpa using hb
        rcases e' with z | z
        · rw [z]; exact hel
        · rw [z]; exact hil
      rw [upd_ne (Nat.ne_of_lt hb')]
      exact (hf b hb).1
  done := by
    intro X hP hw hK hc i pins s σ H E I hf st hg
    subst hP hw hK
    obtain ⟨⟨old, he⟩, hit, hne, hai, hae⟩ := st
    obtain ⟨xs, hq, hx⟩ := hg
    obtain ⟨its, rv, p, hz⟩ := I.tuple hq
    obtain ⟨f0, f1, f2, f3, f4, f5⟩ := hf it (by simp)
    have hl := rv.length
    have hh : X.A.in1.handled = none := I.ok.hd hc
    have en : i = its.toArray.size := by
      rw [List.size_toArray]
      omega
    subst en
    exact wpAny_pyNext_enum_endD (draws_tup hh it a hai its.toArray) he ⟨hit, isTup_tuple p⟩ fun h' eb => ⟨rfl, I.turned (t' := s.toks) (fun b o hb q => eb b o hb q) f0 f1 f3 f4 f5⟩
  self := fun A i s Q E st h => let ⟨⟨_, he⟩, _⟩ := st; wpAny_pyIter_enum he h
def iEnumT (K : PySem.W.Frag) (ta : TA) : TI := fun σ H R => ta σ H fun vs H1 => ∃ a xs, vs = [.ref a] ∧ SqT K H1 a xs ∧ R (IteT K a) H1
theorem pi_enumT {X : Cx} {e : Expr} {ta : TA} {p pos tpos : Pos} {elts : List Expr} {kk : Nat} (hg : Gl X "enumerate") (hm : X.mg "enumerate" = none) (ha : PA X [e] ta) (hs : starEach [e] X.env = [(false, eval e X.env)] := by rfl) :
    PI X (.Tuple elts kk tpos) (.Call (.Name "enumerate" p) [e] [] pos) (iEnumT X.K ta) := by
  intro pins s σ H R I h
  refine Call_ (ld_blt I hg hm boot_enumerate (PyProof.Rows.callWith_type1 (thn (ha pos pins s σ H _ I h) fun us s1 ⟨vs, H1, I1, r1, q1⟩ => ?_) hs rfl))
  obtain ⟨a, xs, ex, hq, q⟩ := q1
  subst ex
  cases r1 with
  | cons r rr =>
    cases rr
    cases r
    obtain ⟨its, rv, p', hz⟩ := I1.tuple hq
    have hal : a < s1.heap.objs.size := p'.lt
    refine call_enum_tup (isTup_tuple p') fun h' he hit hsz hk => wpAny_pyIter_enum he ?_
    have I2 : Inv X pins σ H1 { s1 with heap := h' } := I1.kept (t' := s1.toks) hk
    refine ⟨s1.heap.objs.size + 1, [s1.heap.objs.size + 1, s1.heap.objs.size], _, _, H1, rfl, I2, turn_enumT a (s1.heap.objs.size + 1) s1.heap.objs.size, ⟨⟨.none, he⟩, hit, Nat.succ_ne_self _, Nat.ne_of_lt hal, Nat.ne_of_lt (Nat.lt_succ_of_lt hal)⟩, fun b hb => ?_, q⟩
    have e' : b = s1.heap.objs.size + 1 ∨ b = s1.heap.objs.size := by simpa using hb
    have hle : s1.heap.objs.size ≤ b := by
      rcases e' with z | z
      · rw [z]; exact Nat.le_add_right _ _
      · rw [z]; exact Nat.le_refl _
    exact I1.fpOk hle (I1.hok.fresh hle)
/-! ### loops over enumerate: the turn's pair is new -/
theorem for_enum {K : PySem.W.Frag} {a : Addr} {xs : List V} {g : TG} {tb : TS} {D : Ends} {σ : St} {H : Hp} (Pv : Nat → St → Hp → Prop) (h0 : Pv 0 σ H) (hl : ∀ i σ H, i ≤ xs.length → Pv i σ H → SqL K H a xs)
    (hs : ∀ i x T σ H, xs[i]? = some x → Pv i σ H → H T = none → g (.ref T) σ (upd H T (.tup [.int (i : Nat), x])) fun σ2 H2 => tb { D with nx := Pv (i + 1), ct := Pv (i + 1), bk := D.nx } σ2 H2) (hd : ∀ σ H, Pv xs.length σ H → D.nx σ H) :
    ∃ W : Nat → Nat → St → Hp → Prop, (∃ m, W 0 m σ H) ∧ ∀ i m σ H, W i m σ H →
      ((Ite K a).stop i H ∧ D.nx σ H) ∨ ((Ite K a).go i H ∧ ∃ N : St → Hp → Prop, (∀ σ' H', N σ' H' → ∃ m', m' < m ∧ W (i + 1) m' σ' H') ∧ ∀ x H', (Ite K a).yld i H x H' → g x σ H' fun σ2 H2 => tb { D with nx := N, ct := N, bk := D.nx } σ2 H2) := by
  refine ⟨fun i m σ H => m = xs.length - i ∧ i ≤ xs.length ∧ Pv i σ H, ⟨xs.length, by simp, Nat.zero_le _, h0⟩, ?_⟩
  rintro i m σ H ⟨rfl, hi, p⟩
  have q := hl i σ H hi p
  by_cases hlt : i < xs.length
  · refine .inr ⟨⟨xs, xs[i], q, by simp [hlt]⟩, Pv (i + 1), fun σ' H' p' => ⟨xs.length - (i + 1), by omega, rfl, hlt, p'⟩, fun x H' y => ?_⟩
    obtain ⟨T, z, e1, e2, e3, e4⟩ := y
    subst e1 e3
    exact hs i z T σ _ (e4 xs q) p e2
  · have e : i = xs.length := by omega
    subst e
    exact .inl ⟨⟨xs, q, Nat.le_refl _⟩, hd σ H p⟩
theorem for_enumT {K : PySem.W.Frag} {a : Addr} {xs : List V} {g : TG} {tb : TS} {D : Ends} {σ : St} {H : Hp} (Pv : Nat → St → Hp → Prop) (h0 : Pv 0 σ H) (hl : ∀ i σ H, i ≤ xs.length → Pv i σ H → SqT K H a xs)
    (hs : ∀ i x T σ H, xs[i]? = some x → Pv i σ H → H T = none → g (.ref T) σ (upd H T (.tup [.int (i : Nat), x])) fun σ2 H2 => tb { D with nx := Pv (i + 1), ct := Pv (i + 1), bk := D.nx } σ2 H2) (hd : ∀ σ H, Pv xs.length σ H → D.nx σ H) :
    ∃ W : Nat → Nat → St → Hp → Prop, (∃ m, W 0 m σ H) ∧ ∀ i m σ H, W i m σ H →
      ((IteT K a).stop i H ∧ D.nx σ H) ∨ ((IteT K a).go i H ∧ ∃ N : St → Hp → Prop, (∀ σ' H', N σ' H' → ∃ m', m' < m ∧ W (i + 1) m' σ' H') ∧ ∀ x H', (IteT K a).yld i H x H' → g x σ H' fun σ2 H2 => tb { D with nx := N, ct := N, bk := D.nx } σ2 H2) := by
  refine ⟨fun i m σ H => m = xs.length - i ∧ i ≤ xs.length ∧ Pv i σ H, ⟨xs.length, by simp, Nat.zero_le _, h0⟩, ?_⟩
  rintro i m σ H ⟨rfl, hi, p⟩
  have q := hl i σ H hi p
  by_cases hlt : i < xs.length
  · refine .inr ⟨⟨xs, xs[i], q, by simp [hlt]⟩, Pv (i + 1), fun σ' H' p' => ⟨xs.length - (i + 1), by omega, rfl, hlt, p'⟩, fun x H' y => ?_⟩
    obtain ⟨T, z, e1, e2, e3, e4⟩ := y
    subst e1 e3
    exact hs i z T σ _ (e4 xs q) p e2
  · have e : i = xs.length := by omega
    subst e
    exact .inl ⟨⟨xs, q, rfl⟩, hd σ H p⟩
/-! ### a comprehension over a text -/
theorem lc_str {x : Str} {g : TG} {tt : TT} {te : TE} {vs : List Nat} {σ : St} {H1 : Hp} {D : Addr} {Qd : Hp → Prop} (Pv : Nat → Hp → Prop) (h0 : Pv 0 (upd H1 D (.lst [])))
    (hs : ∀ i c H, x.cps[i]? = some c → Pv i H → g (.str ⟨#[c]⟩) (wipe σ vs) H fun σ2 H2 => wipe σ2 vs = wipe σ vs ∧ tt σ2 H2 fun b H3 =>
      if b = true then te σ2 H3 fun y H4 => ∃ acc, H4 D = some (.lst acc) ∧ acc.length < sizeLine ∧ Pv (i + 1) (upd H4 D (.lst (acc ++ [y]))) else Pv (i + 1) H3) (hd : ∀ H, Pv x.cps.size H → Qd H) :
    ∃ W : Nat → Nat → Hp → Prop, (∃ m, W 0 m (upd H1 D (.lst []))) ∧ ∀ i m H, W i m H →
      ((Its x).stop i H ∧ Qd H) ∨ ((Its x).go i H ∧ ∃ Nx : Hp → Prop, (∀ H', Nx H' → ∃ m', m' < m ∧ W (i + 1) m' H') ∧ ∀ y H', (Its x).yld i H y H' → g y (wipe σ vs) H' fun σ2 H2 => wipe σ2 vs = wipe σ vs ∧ tt σ2 H2 fun b H3 =>
        if b = true then te σ2 H3 fun y H4 => ∃ acc, H4 D = some (.lst acc) ∧ acc.length < sizeLine ∧ Nx (upd H4 D (.lst (acc ++ [y]))) else Nx H3) := by
  refine ⟨fun i m H => m = x.cps.size - i ∧ i ≤ x.cps.size ∧ Pv i H, ⟨x.cps.size, by simp, Nat.zero_le _, h0⟩, ?_⟩
  rintro i m H ⟨rfl, hi, p⟩
  by_cases hlt : i < x.cps.size
  · refine .inr ⟨hlt, Pv (i + 1), fun H' p' => ⟨x.cps.size - (i + 1), by omega, rfl, hlt, p'⟩, fun y H' q => ?_⟩
    obtain ⟨e, c, e1, e2⟩ := q
    subst e e2
    exact hs i c _ e1 p
  · have e : i = x.cps.size := by omega
    subst e
    exact .inl ⟨Nat.le_refl _, hd H p⟩
end L2
end
section
set_option Elab.async false
set_option linter.all false
set_option maxRecDepth 100000
set_option maxHeartbeats 2000000
namespace L2
open PySem PySem.Spec PyProof.Rows
/-! ### == and != of lists of ints; of any list and an empty one -/
theorem eqvAll_ints : ∀ xs ys : List Int, PyData.eqvAll (xs.map PyData.int) (ys.map PyData.int) = decide (xs = ys)
  | [], [] => by simp [PyData.eqvAll]
  | [], y :: ys => by simp [PyData.eqvAll]
  | x :: xs, [] => by simp [PyData.eqvAll]
  | x :: xs, y :: ys => by
    simp only [List.map_cons, PyData.eqvAll, PyData.eqv, eqvAll_ints xs ys]
    by_cases h : x = y
    · subst h
      simp
    · simp [h]
theorem canLay_ints : ∀ xs : List Int, PyData.canLayAll0 (xs.map PyData.int) = true
  | [] => rfl
  | x :: xs => by
    simp only [List.map_cons, PyData.canLayAll0, PyData.canLay0, canLay_ints xs, Bool.and_self]
theorem depth_ints : ∀ xs : List Int, PyData.depthAll (xs.map PyData.int) ≤ 1
  | [] => by simp [PyData.depthAll]
  | x :: xs => by
    have := depth_ints xs
    simp only [List.map_cons, PyData.depthAll, PyData.depth]
    omega
theorem shaped_ints (xs : List Int) : SeqAt.shaped (.list (xs.map PyData.int)) = true := by
  unfold SeqAt.shaped
  rw [Bool.and_eq_true, decide_eq_true_eq]
  refine ⟨canLay_ints xs, ?_⟩
  have := depth_ints xs
  simp only [PyData.depth]
  omega
theorem dp_ints {K : PySem.W.Frag} {H : Hp} : ∀ xs : List Int, DpAll K H (xs.map V.int) (xs.map PyData.int)
  | [] => .nil
  | x :: xs => .cons (.int x) (dp_ints xs)
def rEqL (K : PySem.W.Frag) : R2 := fun x y H Q => ∃ (a b : Addr) (xs ys : List Int), x = .ref a ∧ y = .ref b ∧ SqL K H a (xs.map V.int) ∧ SqL K H b (ys.map V.int) ∧ Q (.bl (decide (xs = ys))) H
def rNeL (K : PySem.W.Frag) : R2 := fun x y H Q => ∃ (a b : Addr) (xs ys : List Int), x = .ref a ∧ y = .ref b ∧ SqL K H a (xs.map V.int) ∧ SqL K H b (ys.map V.int) ∧ Q (.bl (!decide (xs = ys))) H
section
variable {X : Cx}
theorem op_eqL (hu : X.A.units + 64 < cLine) : OpR X (compareOp .Eq) (rEqL X.K) := by
  intro pins s σ H x y v u Q I rx ry ⟨a, b, xs, ys, e1, e2, h1, h2, q⟩
  subst e1 e2
  refine op_eqD hu pins s σ H _ _ v u Q I rx ry ⟨_, _, .lst h1 (dp_ints xs), .lst h2 (dp_ints ys), shaped_ints _, shaped_ints _, ?_⟩
  show Q (.bl (PyData.eqvAll _ _)) H
  rw [eqvAll_ints]
  exact q
theorem op_neL (hu : X.A.units + 64 < cLine) : OpR X (compareOp .NotEq) (rNeL X.K) := by
  intro pins s σ H x y v u Q I rx ry ⟨a, b, xs, ys, e1, e2, h1, h2, q⟩
  subst e1 e2
  refine op_neD hu pins s σ H _ _ v u Q I rx ry ⟨_, _, .lst h1 (dp_ints xs), .lst h2 (dp_ints ys), shaped_ints _, shaped_ints _, ?_⟩
  show Q (.bl (!PyData.eqvAll _ _)) H
  rw [eqvAll_ints]
  exact q
def rEq0 (K : PySem.W.Frag) : R2 := fun x y H Q => ∃ a b xs, x = .ref a ∧ y = .ref b ∧ SqL K H a xs ∧ SqL K H b [] ∧ Q (.bl xs.isEmpty) H
theorem sizes_of {xs : List V} {its its' : List Value} (r : Vals xs its) (r' : Vals [] its') (h : xs ≠ []) : (its.toArray.size != its'.toArray.size) = true := by
  cases r'
  have := r.length
  have hx : 0 < xs.length := List.length_pos_iff.mpr h
  simp only [List.size_toArray, bne_iff_ne, ne_eq, List.length_nil]
  omega
theorem op_eq0 (hu : X.A.units + 64 < cLine) : OpR X (compareOp .Eq) (rEq0 X.K) := by
  intro pins s σ H x y v u Q I rx ry ⟨a, b, xs, e1, e2, h1, h2, q⟩
  subst e1 e2
  by_cases hx : xs = []
  · subst hx
    refine op_eqD hu pins s σ H _ _ v u Q I rx ry ⟨_, _, .lst h1 .nil, .lst h2 .nil, by rfl, by rfl, ?_⟩
    exact q
  · cases rx
    cases ry
    obtain ⟨its, r1, ⟨o1, n1, g1, c1, _, d1⟩, _⟩ := I.list h1
    obtain ⟨its', r2, ⟨o2, n2, g2, c2, _, d2⟩, _⟩ := I.list h2
    refine SeqAt.eq_list_lengthsAt ⟨o1, g1, c1, n1, d1⟩ ⟨o2, g2, c2, n2, d2⟩ (sizes_of r1 r2 hx) (by omega) ⟨.bl false, H, I, rfl, ?_⟩
    have : xs.isEmpty = false := by cases xs with | nil => exact absurd rfl hx | cons _ _ => rfl
    rw [this] at q
    exact q
end
end L2
end
section
set_option Elab.async false
set_option linter.all false
set_option maxRecDepth 100000
set_option maxHeartbeats 2000000
namespace L2
open PySem PySem.Spec PyProof.Rows PySem.XL
/-! ### a comprehension whose element may raise -/
section
variable {X : Cx}
theorem lcx_core {E : XK} {pins : List (Addr × Obj)} {s : Shared} {σ : St} {H : Hp} {Q : VK} {elt tg iter : Expr} {ifs : List Expr} {scope : Scope} {own : List (Str × Nat)} {pos pos' : Pos} {wi : TI} {g : TG} {tt : TT} {te : TE} {use : Option (Value → Sem Unit)} {Qf : Value → Shared → Prop}
    (hc : X.calm = true) (ow : X.Own) (hN : X.N.Nodup) (I : Inv X pins σ H s) (hi : PI (X.fly E) tg iter wi) (ok : BlkOk X.N X.env.scope scope own)
    (hg : ∀ (s : Shared) (H : Hp) (C : Addr) (cl : List (Str × Addr)) (fp : List Addr), PG (X.blk s H scope (compEnvC scope cl C X.env) fp) tg g) (ht : ∀ (s : Shared) (H : Hp) (C : Addr) (cl : List (Str × Addr)) (fp : List Addr), PTs (X.blk s H scope (compEnvC scope cl C X.env) fp) ifs tt)
    (he : ∀ (s : Shared) (H : Hp) (C : Addr) (cl : List (Str × Addr)) (fp : List Addr), PE ((X.blk s H scope (compEnvC scope cl C X.env) fp).fly E) elt te) (hs : ∀ x, foldedSetIterable iter X.env x = pure x)
    (h : tLc wi g tt te (own.map (·.2)) σ H Q)
    (hRR : ∀ D C s' m H', Inv X pins σ H' s' → Q (.ref D) H' → s'.heap.Ns C m → FpOk X pins H' C → compPost (model X.prog X.w) X.A (FlyW X E) use Qf (.ref D) C (.ok .next) s') :
    wpAny (model X.prog X.w) X.A (comprehension (.ListComp elt [⟨tg, iter, ifs, 0⟩] scope pos) scope X.env pos' (newList []) false (eval iter X.env) use) Qf (FlyW X E) s := by
  have hfree : ∀ y ∈ scope.names, y.2 = .free → ∃ c, X.env.cells.lookup y.1 = some c := fun y hy e => by
    rcases ok.free y hy e with k | k
    · exact I.ok.has _ (.inl k)
    · exact I.ok.has _ (.inr k)
  refine wpAny_comprehension_free (use := use) rfl hs (closure_ok hfree) ok.kind (fun y hy e => by rw [ok.uniq y hy, e])
    (thn (hi pins s σ H _ (I.wish _) h) fun xv s1 hx => thn hx fun itv s2 h2 => ?_)
  obtain ⟨it, fp, tn, J, H2, e, I2, T, st2, f2, q⟩ := h2
  have I2 := I2.unwish
  subst e
  refine wpAny_newObj_type (newEnv_comp ?_) (by show 0 ≤ sizeLine; decide)
  generalize hD : s2.heap.objs.size = D
  have hDn : H2 D = none := I2.hok.fresh (Nat.le_of_eq hD)
  obtain ⟨W, ⟨m0, w0⟩, turn⟩ := q D hDn
  -- the new list
  generalize hs3 : ({ s2 with heap := s2.heap.push { cls := .type "list", data := .seq ([] : List Value).toArray } } : Shared) = s3
  have I3 : Inv X pins σ (upd H2 D (.lst [])) s3 := by
    rw [← hs3]
    refine I2.laid (t' := s2.toks) (fun b o e => Heap.get?_push_of_some _ e) (Nat.le_of_eq hD) ⟨Nat.zero_le _, [], 0, .nil, ?_⟩
    rw [← hD]
    exact Heap.get?_push_size _ rfl
  have h3 : s3.heap = s2.heap.push { cls := .type "list", data := .seq ([] : List Value).toArray } := by rw [← hs3]
  have sz : ∀ b ∈ fp, b < s2.heap.objs.size := fun b hb => by
    obtain ⟨o, e, _⟩ := T.obj _ _ st2 b hb
    exact Heap.lt_size e
  have f3 : ∀ b ∈ fp, FpOk X pins (upd H2 D (.lst [])) b ∧ b < s3.heap.objs.size := fun b hb => by
    have hlt := sz b hb
    refine ⟨⟨?_, (f2 b hb).2⟩, by rw [h3, Heap.size_push]; exact Nat.lt_succ_of_lt hlt⟩
    rw [upd_ne (by rw [← hD]; exact Nat.ne_of_lt hlt)]
    exact (f2 b hb).1
  have st3 : tn 0 s3.heap := T.keep _ _ _ st2 fun b _ o e => by rw [h3]; exact Heap.get?_push_of_some _ e
  have I4 := block_start I3 ok hN f3
  have pg := hg s3 (upd H2 D (.lst [])) s3.heap.objs.size (cellsFrom (s3.heap.objs.size + 1) scope.names (cloFrom X.env.cells scope.names [])) fp
  have pt := ht s3 (upd H2 D (.lst [])) s3.heap.objs.size (cellsFrom (s3.heap.objs.size + 1) scope.names (cloFrom X.env.cells scope.names [])) fp
  have pe := he s3 (upd H2 D (.lst [])) s3.heap.objs.size (cellsFrom (s3.heap.objs.size + 1) scope.names (cloFrom X.env.cells scope.names [])) fp
  show codeAny _ _ (.compStart (.ListComp elt [⟨tg, iter, ifs, 0⟩] scope pos) 0 (.ref it) (.ref D) (compEnvC scope (cellsFrom (s3.heap.objs.size + 1) scope.names (cloFrom X.env.cells scope.names [])) s3.heap.objs.size X.env)) (compPost (model X.prog X.w) X.A (FlyW X E) use Qf (.ref D) s3.heap.objs.size) { s3 with heap := pushCells (s3.heap.push { cls := .type "dict", data := .dict #[] }) scope.names }
  have nfp : ∀ b ∈ fp, (upd H2 D (.lst [])) b = none := fun b hb => (f3 b hb).1.1
  generalize hce : compEnvC scope (cellsFrom (s3.heap.objs.size + 1) scope.names (cloFrom X.env.cells scope.names [])) s3.heap.objs.size X.env = ce at I4 pg pt pe ⊢
  have cL : ce.locals = s3.heap.objs.size := by subst hce; rfl
  generalize hH3 : upd H2 D (.lst []) = H3 at I3 I4 pg pt pe w0 nfp f3
  generalize hs4 : ({ s3 with heap := pushCells (s3.heap.push { cls := .type "dict", data := .dict #[] }) scope.names } : Shared) = s4 at I4 ⊢
  have st4 : tn 0 s4.heap := T.keep _ _ _ st3 fun b _ o e => by rw [← hs4]; exact pushCells_keeps _ _ _ _ (Heap.get?_push_of_some _ e)
  have stat : ∀ {σ' : St} {H' : Hp} {s' : Shared}, Inv (X.blk s3 H3 scope ce fp) [] σ' H' s' → (∀ b ∈ fp, H' b = none) → ∀ b ∈ fp, FpOk (X.blk s3 H3 scope ce fp) [] H' b := fun {σ' H' s'} I' hn b hb =>
    ⟨hn b hb, (I'.ok.exf b hb).1, I'.ok.exfs b hb, .inl hb, fun x c e => (I'.ok.exf b hb).2 x c e, fun p hp => absurd (show p ∈ ([] : List (Addr × Obj)) ++ [] from hp) (by simp)⟩
  have loop : codeAny (model X.prog X.w) X.A (.compLoop (.ListComp elt [⟨tg, iter, ifs, 0⟩] scope pos) 0 (.ref it) (.ref D) ce) (compPost (model X.prog X.w) X.A (FlyW X E) use Qf (.ref D) s3.heap.objs.size) s4 := by
    refine compLoop_any (fun n s' => ∃ i H', Inv (X.blk s3 H3 scope ce fp) [] (wipe σ (own.map (·.2))) H' s' ∧ tn i s'.heap ∧ (∀ b ∈ fp, H' b = none) ∧ W i n H') ?_ m0 ⟨0, H3, I4, st4, nfp, w0⟩
    rintro n s5 ⟨i, H5, I5, st5, n5, w5⟩
    rcases turn i n H5 w5 with ⟨stop, qq⟩ | ⟨go, Nx, hNx, step⟩
    · have td := T.done (X.blk s3 H3 scope ce fp) rfl rfl rfl hc i [] s5 _ H5 (fun _ _ => False) I5 (stat I5 n5) st5 stop
      refine thnF td fun r s6 ⟨hr, I6⟩ => ?_
      subst hr
      -- back in the def's context
      have I7 : Inv X pins σ H5 s6 := I3.call' (ch := fp) I6.os I6.base I6.hok I6.bare fun b hb => ⟨(f3 b hb).1.2.2.2.1, (f3 b hb).1.2.1, (f3 b hb).1.2.2.2.2.1, (f3 b hb).1.2.2.2.2.2⟩
      have nC : H5 s3.heap.objs.size = none := by
        have z : H5 ce.locals = none := I6.free
        rw [cL] at z
        exact z
      obtain ⟨m, hn, _⟩ := I6.loc
      have hn : s6.heap.Ns ce.locals m := hn
      rw [cL] at hn
      exact hRR D s3.heap.objs.size s6 m H5 I7 qq hn (I3.fpOk (Nat.le_refl _) nC)
    · have ti := T.item (X.blk s3 H3 scope ce fp) rfl rfl rfl hc i [] s5 _ H5 (fun _ _ => False) I5 (stat I5 n5) st5 go
      refine thnF ti fun r s6 ⟨u, hr, h6⟩ => ?_
      subst hr
      refine thnF h6 fun _ s7 ⟨x, H7, I7, r7, y7, st7, n7⟩ => ?_
      have I7' := I7.pinned (stat I7 n7) (T.obj _ _ st7)
      refine thnF (pg _ s7 _ H7 x u _ I7' r7 (step x H7 y7)) fun _ s8 ⟨σ8, H8, I8, hw8, q8⟩ => ?_
      refine thnF (pt _ s8 σ8 H8 _ I8 q8) fun b s9 ⟨H9, I9, q9⟩ => ?_
      -- the turn's end
      have fin : ∀ {s' : Shared} {H' : Hp}, Inv (X.blk s3 H3 scope ce fp) ([] ++ pinsAt fp s7.heap) σ8 H' s' → Nx H' → ∃ m, m < n ∧ ∃ i H', Inv (X.blk s3 H3 scope ce fp) [] (wipe σ (own.map (·.2))) H' s' ∧ tn i s'.heap ∧ (∀ b ∈ fp, H' b = none) ∧ W i m H' := fun {s' H'} I' nx => by
        obtain ⟨m', hm, w'⟩ := hNx H' nx
        have pin' : ∀ b ∈ fp, ∀ o, s7.heap.get? b = some o → s'.heap.get? b = some o ∧ H' b = none := fun b hb o e =>
          let z := I'.pin (b, o) (List.mem_append_right _ (List.mem_append_right _ (mem_pinsAt hb e)))
          ⟨z.1, z.2.1⟩
        have hl : (wipe σ (own.map (·.2))).length = σ8.length := by rw [← hw8, wipe_length]
        refine ⟨m', hm, i + 1, H', (I'.unpinned (pins := [])).weak hl (fun j v e => ?_), T.keep _ _ _ st7 fun b hb o e => (pin' b hb o e).1, fun b hb => ?_, w'⟩
        · rw [← hw8] at e
          exact (wipe_some e).1
        · obtain ⟨o, e, _⟩ := T.obj _ _ st7 b hb
          exact (pin' b hb o e).2
      cases b with
      | false =>
        simp only [Bool.false_eq_true, if_false] at q9 ⊢
        exact fin I9 q9
      | true =>
        simp only [if_true] at q9 ⊢
        refine wpAny_mono (pe _ s9 σ8 H9 _ (I9.wish _) q9) (fun z s10 ⟨yv, H10, I10, r10, acc, hD10, hz10, nx⟩ => ?_) fun e s10 hz => ?_
        · exact app_ok (X := X.blk s3 H3 scope ce fp) I10.unwish hD10 hz10 r10 fun s11 I11 => fin I11 nx
        · -- it leaves the block
          obtain ⟨xa, xC, od, H0, Hx, σx, rfl, Ix, fx, hdx, hE⟩ := hz
          show wpAny _ _ (noteFrame _ _) _ _ s10
          refine note_fly (X := X.blk s3 H3 scope ce fp) (en := ce) ow.1 ow.2 (by rw [← hce]; exact ow.2) I3.ok.frames Ix fx fun s11 H11 I11 f11 => ?_
          obtain ⟨m, hn, _⟩ := id I11.loc
          have hn : s11.heap.Ns ce.locals m := hn
          rw [cL] at hn
          have nC : H11 s3.heap.objs.size = none := by
            have z : H11 ce.locals = none := I11.free
            rw [cL] at z
            exact z
          have key : ∃ m, s11.heap.Ns s3.heap.objs.size m ∧ ∀ h', Heap.SameBut s3.heap.objs.size s11.heap h' → ∀ cenv : Env, cenv.locals = s3.heap.objs.size → wpAny (model X.prog X.w) X.A (passOn "comprehension.variables-let-go" (.ref xa) cenv : Sem Value) (fun _ _ => False) (FlyW X E) { s11 with heap := h' } := by
            refine ⟨m, hn, fun h' sb cenv _ => ?_⟩
            have I12 : Inv X pins σ H11 s11 := I3.call' (ch := fp) I11.os I11.base I11.hok I11.bare fun b hb => ⟨(f3 b hb).1.2.2.2.1, (f3 b hb).1.2.1, (f3 b hb).1.2.2.2.2.1, (f3 b hb).1.2.2.2.2.2⟩
            obtain ⟨g0, g1, g2, g3, g4, g5⟩ := I3.fpOk (H' := H11) (Nat.le_refl _) nC
            have I13 : Inv X pins σ H11 { s11 with heap := h', toks := s11.toks } := I12.turned (t' := s11.toks) (fun b o hb e => (sb.2 b hb).trans e) g0 g1 g3 g4 g5
            obtain ⟨T', ha', _⟩ := id f11
            obtain ⟨o', ge', q1', q2', vs', q3', q4'⟩ := one_at I13.hok ha'
            unfold PySem.passOn
            refine wpAny_bind (wpAny_field ge' q3' q4' ?_)
            rw [if_neg (show ¬ (Value.ref T' == Value.none) = true from Bool.false_ne_true)]
            refine wpAny_bind (fly_set cenv.frame I13 f11 fun s14 H14 I14 f14 => wpAny_throw ?_)
            exact ⟨xa, xC, od, H0, H14, σ, rfl, I14.bare_pins, f14.at_, hdx, hE⟩
          cases use <;> exact key
  exact codeAny_compStart_list loop (T.self X.A 0 _ _ _ st4 loop)
/-- name = [..] on one line, the name a local -/
theorem ps_setLcx {E : XK} {i : Nat} {y : Str} {py : Pos} {elt tg iter : Expr} {ifs : List Expr} {scope : Scope} {own : List (Str × Nat)} {pos spos : Pos} {wi : TI} {g : TG} {tt : TT} {te : TE} (hc : X.calm = true) (ow : X.Own) (hN : X.N.Nodup) (hy : X.N[i]? = some y) (hyl : X.env.scope.names.lookup y = some .local)
    (hsw : swapsWith (.ListComp elt [⟨tg, iter, ifs, 0⟩] scope pos) (some (.Name y py)) spos.line X.env = pure true) (hi : PI (X.fly E) tg iter wi) (ok : BlkOk X.N X.env.scope scope own)
    (hg : ∀ (s : Shared) (H : Hp) (C : Addr) (cl : List (Str × Addr)) (fp : List Addr), PG (X.blk s H scope (compEnvC scope cl C X.env) fp) tg g) (ht : ∀ (s : Shared) (H : Hp) (C : Addr) (cl : List (Str × Addr)) (fp : List Addr), PTs (X.blk s H scope (compEnvC scope cl C X.env) fp) ifs tt)
    (he : ∀ (s : Shared) (H : Hp) (C : Addr) (cl : List (Str × Addr)) (fp : List Addr), PE ((X.blk s H scope (compEnvC scope cl C X.env) fp).fly E) elt te) (hs : ∀ x, foldedSetIterable iter X.env x = pure x := by intro _; rfl) :
    PS (X.fly E) (.Assign [.Name y py] (.ListComp elt [⟨tg, iter, ifs, 0⟩] scope pos) spos) (tAsg (tLc wi g tt te (own.map (·.2))) (gName i)) := by
  intro pins s σ H D I h
  rw [exec_Assign_Name_used _ _ _ _ hsw]
  refine wpAny_bind (wpAny_standAt (wpAny_bind ?_))
  show wpAny _ X.A (do let _ ← comprehension (.ListComp elt [⟨tg, iter, ifs, 0⟩] scope pos) scope X.env (firstIterPos [⟨tg, iter, ifs, 0⟩] pos) (newList []) false (eval iter X.env) (some (assign (.Name y py) X.env))) _ _ s
  have h : tLc wi g tt te (own.map (·.2)) σ H (fun x H1 => gName i x σ H1 D.nx) := h
  refine wpAny_bind (thn (lcx_core (Qf := fun _ s' => SP (X.fly E) pins D .next s') hc ow hN I.unwish hi ok hg ht he hs h fun L C s' m H' I' q hn f => ?_) fun _ s' hq => wpAny_pure (wpAny_pure hq))
  show wpAny _ _ (assign (.Name y py) X.env (.ref L)) _ _ _
  refine wpAny_assign_Name (store_ok2 (v := V.ref L) I' hN hy (.inl hyl) rfl (fun s2 I2 ⟨a, sb, ha⟩ => ?_) (.inr hyl))
  obtain ⟨f0, f1, f2, f3, f4, f5⟩ := f
  have haC : C ≠ a := by
    rcases ha with z | z
    · rw [z]; exact f1
    · exact fun e => f4 y a z e.symm
  refine ⟨m, hn.sameBut sb haC, fun h3 sb3 => ?_⟩
  exact ⟨_, H', (I2.turned (t' := s2.toks) (fun b o hb e => (sb3.2 b hb).trans e) f0 f1 f3 f4 f5).wish _, q⟩
end
end L2
end
section
set_option Elab.async false
set_option linter.all false
set_option maxRecDepth 100000
set_option maxHeartbeats 2000000
namespace L2
open PySem PySem.Spec PyProof.Rows PySem.XL
theorem obj_is {P : Program} {w : World} {H : Hp} {h : Heap} {a : Addr} {o : HO} (x : ObjOk P w H h a o) : ∃ ob, h.get? a = some ob := by
  cases o with
  | lst xs => obtain ⟨_, _, _, _, e⟩ := x; exact ⟨_, e⟩
  | tup xs => obtain ⟨_, _, _, ob, e, _⟩ := x; exact ⟨ob, e⟩
  | dK kvs => obtain ⟨_, _, _, _, o, _, _, e, _⟩ := x; exact ⟨o, e⟩
  | dT kvs => obtain ⟨_, _, _, _, o, _, _, e, _⟩ := x; exact ⟨o, e⟩
  | set S n => obtain ⟨o, _, _, _, e, _⟩ := x; exact ⟨o, e⟩
  | ins C dx fs => obtain ⟨_, _, _, e, _⟩ := x; exact ⟨_, e⟩
  | own y => obtain ⟨ob, e⟩ := x; exact ⟨ob, e⟩
  | xd fs => obtain ⟨_, ⟨ob, _, _, e, _⟩, _⟩ := x; exact ⟨ob, e⟩
  | rng lo hi => obtain ⟨_, _, _, e⟩ := x; exact ⟨_, e⟩
  | frz ob u => obtain ⟨e, _⟩ := x; exact ⟨ob, e⟩
  | tbl ps => exact ⟨_, (show h.get? a = some _ from x)⟩
  | met f y => exact ⟨_, (show h.get? a = some _ from x)⟩
  | ext φ => obtain ⟨_, ⟨ob, e⟩, _⟩ := x; exact ⟨ob, e⟩
/-! ### C() of an own exception class without an __init__ -/
section
variable {X : Cx} {C N : Addr} {x : Str} {p pos : Pos}
def tMkx0 (C : Addr) : TE := fun _ H Q => ∀ x, H x = none → Q (.ref x) (upd H x (exc C none .none x))
theorem pe_mkx0 (c : XC X.K C N) (mI : PySem.W.nsIn X.K N "__init__" = some none) (kp : PySem.W.keepIn X.K (.ref C) = true) (hg : Gl X x) (hm : X.mg x = some (.ref C)) (hdb : (x == ("__debug__" : Str)) = false := by decide) :
    PE X (.Call (.Name x p) [] [] pos) (tMkx0 C) := by
  intro pins s σ H Q I h
  refine wpAny_Call_Name_kw (ld_glob I hg hm ?_ hdb)
  refine PySem.W.callWith_K0 I.kIn kp ?_
  obtain ⟨nm, q, bs, sn, sub, ab, col, dd, k0, k1, k2, k3, k5, cls⟩ := c.obj
  obtain ⟨c1, c2, _⟩ := cls s.heap I.kIn
  have hni : s.heap.nsMap N "__init__" = none := PySem.W.nsMap_none_of_in I.kIn (xc_ns c) mI
  have I0 := I
  obtain ⟨hh, g, d, tk, os⟩ := s
  refine wpAny_call_exc_sub PySem.F.excBase_Exception c1 c2 hni (fun h' e me => ?_) (by show 0 ≤ sizeLine; decide)
  obtain ⟨t, ge, _⟩ := me.there
  have ne : H e = none := by
    cases z : H e with
    | none => rfl
    | some u =>
      obtain ⟨o, eo⟩ := obj_is (I0.hok e u z)
      have nn := me.new
      have eo : hh.get? e = some o := eo
      rw [nn] at eo
      cases eo
  refine ⟨.ref e, _, I0.extd (h2 := h') (t2 := tk) [e] (fun b nb => ?_) (fun b hb => ?_) (fun b hb u hu => ?_) (fun b o nb g => me.keeps b o g) (fun b hb o g => ⟨_, me.keeps b o g⟩), rfl, h e ne⟩
  · have : b ≠ e := by simpa using nb
    rw [upd_ne this]
  · have : b = e := by simpa using hb
    subst this
    exact .inl ⟨ne, me.new⟩
  · have : b = e := by simpa using hb
    subst this
    rw [upd_same] at hu
    cases hu
    exact one_ok ge ⟨rfl, rfl, _, rfl, rfl⟩
end
/-! ### xs.count(x) of ints -/
section
variable {X : Cx}
def rCountI (K : PySem.W.Frag) : V → List V → Hp → VK → Prop := fun x vs H Q => ∃ (l : Addr) (ns : List Int) (k : Int), x = .ref l ∧ vs = [.int k] ∧ SqL K H l (ns.map V.int) ∧ Q (.int (ns.count k : Nat)) H
theorem mt_countI : MtR X "list.count" (rCountI X.K) := by
  intro pins s σ H x xs v us Q I rx rxs ⟨l, ns, k, e1, e2, hs, q⟩
  subst e1 e2
  cases rx
  obtain ⟨u, rfl, ru⟩ := vals1 rxs
  obtain ⟨t, rfl⟩ := ru
  obtain ⟨its, r, ⟨o, n, g, c, _, d⟩, hz⟩ := I.list hs
  exact count_list_ints (vs := its) (ns := ns) ⟨o, g, c, n, d⟩ (intsAre_of r) ⟨.int (ns.count k : Nat), H, I.tok _, ⟨_, rfl⟩, q⟩
/-! ### x in a list of data -/
mutual
theorem Dp.inj {pins : List (Addr × Obj)} {σ : St} {H : Hp} {s : Shared} (I : Inv X pins σ H s) : ∀ {d d' : PyData} {v : V}, Dp X.K H v d → Dp X.K H v d' → d = d'
  | _, _, _, .non, h => by cases h; rfl
  | _, _, _, .bl b, h => by cases h; rfl
  | _, _, _, .int b, h => by cases h; rfl
  | _, _, _, .str b, h => by cases h; rfl
  | _, _, _, .lst s1 a1, h => by
    cases h with
    | lst s2 a2 =>
      have e := I.list_inj s1 s2
      subst e
      rw [DpAll.inj I a1 a2]
    | tup s2 a2 =>
      obtain ⟨_, _, ⟨o1, n1, g1, c1, _, _⟩, _⟩ := I.list s1
      obtain ⟨_, _, ⟨o2, g2, c2, _, _⟩, _⟩ := I.tuple s2
      rw [g1] at g2
      cases g2
      rw [c1] at c2
      exact absurd c2 (by decide +kernel)
  | _, _, _, .tup s1 a1, h => by
    cases h with
    | tup s2 a2 =>
      have e := I.tuple_inj s1 s2
      subst e
      rw [DpAll.inj I a1 a2]
    | lst s2 a2 =>
      obtain ⟨_, _, ⟨o1, n1, g1, c1, _, _⟩, _⟩ := I.list s2
      obtain ⟨_, _, ⟨o2, g2, c2, _, _⟩, _⟩ := I.tuple s1
      rw [g1] at g2
      cases g2
      rw [c1] at c2
      exact absurd c2 (by decide +kernel)
theorem DpAll.inj {pins : List (Addr × Obj)} {σ : St} {H : Hp} {s : Shared} (I : Inv X pins σ H s) : ∀ {ds ds' : List PyData} {vs : List V}, DpAll X.K H vs ds → DpAll X.K H vs ds' → ds = ds'
  | _, _, _, .nil, h => by cases h; rfl
  | _, _, _, .cons d1 r1, h => by
    cases h with
    | cons d2 r2 => rw [Dp.inj I d1 d2, DpAll.inj I r1 r2]
end
/-- the data of a value among pairs -/
def dataOf : List (Value × PyData) → Value → PyData
  | [], _ => .none
  | (u, d) :: r, x => if u = x then d else dataOf r x
def rInD (K : PySem.W.Frag) : R2 := fun x y H Q => ∃ (p : Addr) (xs : List V) (ds : List PyData) (dx : PyData), y = .ref p ∧ SqL K H p xs ∧ DpAll K H xs ds ∧ Dp K H x dx ∧ (∀ d ∈ ds, SeqAt.shaped d = true) ∧ SeqAt.shaped dx = true ∧ Q (.bl (ds.any fun d => PyData.eqv d dx)) H
theorem dataOf_at {pins : List (Addr × Obj)} {σ : St} {H : Hp} {s : Shared} (I : Inv X pins σ H s) : ∀ {xs : List V} {ds : List PyData} {us : List Value}, DpAll X.K H xs ds → Vals xs us →
    ∀ (i : Nat) (u : Value) (d : PyData), us[i]? = some u → ds[i]? = some d → dataOf (us.zip ds) u = d ∧ ∃ v, Dp X.K H v d ∧ RelV v u
  | _, _, _, .nil, .nil, i, u, d, h, _ => by simp at h
  | x :: xs, e :: ds, w :: us, .cons d1 r1, .cons v1 r2, i, u, d, h1, h2 => by
    show (if w = u then e else dataOf (us.zip ds) u) = d ∧ _
    match i, h1, h2 with
    | 0, h1, h2 =>
      have e1 : w = u := Option.some.inj h1
      have e2 : e = d := Option.some.inj h2
      subst e1 e2
      exact ⟨if_pos rfl, x, d1, v1⟩
    | i + 1, h1, h2 =>
      obtain ⟨q1, v, q2, q3⟩ := dataOf_at I r1 r2 i u d h1 h2
      refine ⟨?_, v, q2, q3⟩
      by_cases z : w = u
      · subst z
        rw [if_pos rfl]
        have : x = v := v1.inj q3
        subst this
        exact Dp.inj I d1 q2
      · rw [if_neg z]
        exact q1
theorem dpAll_len {K : PySem.W.Frag} {H : Hp} : ∀ {xs : List V} {ds : List PyData}, DpAll K H xs ds → xs.length = ds.length
  | _, _, .nil => rfl
  | _, _, .cons _ r => by rw [List.length_cons, List.length_cons, dpAll_len r]
theorem any_at {α β : Type} {f : α → Bool} {g : β → Bool} : ∀ {xs : List α} {ys : List β}, xs.length = ys.length → (∀ (i : Nat) x y, xs[i]? = some x → ys[i]? = some y → f x = g y) → xs.any f = ys.any g
  | [], [], _, _ => rfl
  | [], _ :: _, h, _ => by simp at h
  | _ :: _, [], h, _ => by simp at h
  | x :: xs, y :: ys, h, k => by
    rw [List.any_cons, List.any_cons, k 0 x y rfl rfl, any_at (by simpa using h) fun i a b h1 h2 => k (i + 1) a b h1 h2]
theorem op_inD (hu : X.A.units + 128 < cLine) : OpR X (compareOp .In) (rInD X.K) := by
  intro pins s σ H x y v u Q I rx ry ⟨p, xs, ds, dx, e1, hs, hd, hx, sd, sx, q⟩
  subst e1
  cases ry
  obtain ⟨its, r, pl, hz⟩ := I.list hs
  obtain ⟨as, rdx⟩ := Dp.reads I dx x v hx rx
  have hl : its.length = ds.length := by rw [← r.length, dpAll_len hd]
  refine SeqAt.in_listAt (fun y => PyData.eqv (dataOf (its.zip ds) y) dx) pl.isList (fun w hw => ?_) ⟨.bl _, H, I, rfl, ?_⟩
  · obtain ⟨i, hi, e⟩ := List.getElem_of_mem (show w ∈ its by simpa using hw)
    have h1 : its[i]? = some w := by rw [List.getElem?_eq_getElem hi, e]
    have h2 : ds[i]? = some ds[i] := List.getElem?_eq_getElem (by omega)
    obtain ⟨q1, v', q2, q3⟩ := dataOf_at I hd r i w _ h1 h2
    rw [q1]
    obtain ⟨bs, rd⟩ := Dp.reads I _ v' w q2 q3
    have sh := sd _ (List.mem_of_getElem? h2)
    refine SeqAt.eqAt_reads _ dx X.A.in1 s w v bs as rd rdx (SeqAt.canLay_of_shaped sh) (SeqAt.canLay_of_shaped sx) ?_
    have := SeqAt.depth_of_shaped sh
    show X.A.units + 1 + _ < _
    omega
  · rw [show its.toArray.any (fun y => PyData.eqv (dataOf (its.zip ds) y) dx) = its.any (fun y => PyData.eqv (dataOf (its.zip ds) y) dx) by simp]
    rw [any_at (g := fun d => PyData.eqv d dx) hl fun i a b h1 h2 => by rw [(dataOf_at I hd r i a b h1 h2).1]]
    exact q
end
end L2
end
section
set_option Elab.async false
set_option linter.all false
set_option maxRecDepth 100000
set_option maxHeartbeats 2000000
namespace L2
open PySem PySem.Spec PyProof.Rows
abbrev NdL := List (Addr × HO)
def LiesL (H : Hp) (ns : NdL) : Prop := ∀ x ∈ ns, H x.1 = some x.2
theorem LiesL.same {H H' : Hp} {ns : NdL} (h : LiesL H ns) (s : Same H H') : LiesL H' ns := fun x hx => s _ _ (h x hx)
theorem LiesL.upd {H : Hp} {ns : NdL} {D : Addr} {o : HO} (h : LiesL H ns) (n : ∀ x ∈ ns, x.1 ≠ D) : LiesL (upd H D o) ns := fun x hx => by rw [upd_ne (n x hx)]; exact h x hx
theorem LiesL.nil {H : Hp} : LiesL H [] := fun x hx => absurd hx (by simp)
/-- what stands in the list that a comprehension fills: each told by Z, over things that lie -/
def Fill (Z : Nat → V → NdL → Prop) (H : Hp) (ys : List V) : Prop := ∀ i y, ys[i]? = some y → ∃ ns, Z i y ns ∧ LiesL H ns
def FillD (D : Addr) (Z : Nat → V → NdL → Prop) (H : Hp) (ys : List V) : Prop := ∀ i y, ys[i]? = some y → ∃ ns, Z i y ns ∧ LiesL H ns ∧ ∀ x ∈ ns, x.1 ≠ D
theorem FillD.fill {D : Addr} {Z : Nat → V → NdL → Prop} {H : Hp} {ys : List V} (h : FillD D Z H ys) : Fill Z H ys := fun i y e => let ⟨ns, a, b, _⟩ := h i y e; ⟨ns, a, b⟩
theorem FillD.snoc {D : Addr} {Z : Nat → V → NdL → Prop} {H H4 : Hp} {ys : List V} {y : V} {o : HO} {ns : NdL} (h : FillD D Z H ys) (s : Same H H4) (z : Z ys.length y ns) (l : LiesL H4 ns) (n : ∀ x ∈ ns, x.1 ≠ D) : FillD D Z (upd H4 D o) (ys ++ [y]) := fun i v e => by
  by_cases hi : i < ys.length
  · rw [List.getElem?_append_left hi] at e
    obtain ⟨ns', a, b, c⟩ := h i v e
    exact ⟨ns', a, (b.same s).upd c, c⟩
  · rw [List.getElem?_append_right (by omega)] at e
    have e0 : i - ys.length = 0 := by
      cases z : i - ys.length with
      | zero => rfl
      | succ k => rw [z] at e; simp at e
    rw [e0] at e
    have : y = v := by simpa using e
    subst this
    have : i = ys.length := by omega
    subst this
    exact ⟨ns, z, l.upd n, n⟩
theorem same_updD {H H1 : Hp} {p : Addr} {o : HO} (s : Same H H1) (h : H p = none) : Same H (L2.upd H1 p o) := fun b u e => by rw [upd_ne (ne_of_none e h)]; exact s b u e
section
variable {K : PySem.W.Frag} {g : TG} {tt : TT} {te : TE} {vs : List Nat} {σ : St} {H1 : Hp} {D : Addr} {Qd : Hp → Prop}
/-- the invariant -/
def FInv (H1 : Hp) (D : Addr) (Z : Nat → V → NdL → Prop) (i : Nat) (H : Hp) : Prop := ∃ ys, Same H1 H ∧ H D = some (.lst ys) ∧ ys.length = i ∧ FillD D Z H ys
theorem FInv.zero {Z : Nat → V → NdL → Prop} (hD : H1 D = none) : FInv H1 D Z 0 (upd H1 D (.lst [])) := ⟨[], same_updD (fun _ _ e => e) hD, upd_same, rfl, fun i y e => by simp at e⟩
theorem FInv.step {Z : Nat → V → NdL → Prop} {i : Nat} {H H4 : Hp} {y : V} {ns : NdL} (hD : H1 D = none) (hi : i < 1000000) (f : FInv H1 D Z i H) (s : Same H H4) (z : Z i y ns) (l : LiesL H4 ns) (n : ∀ x ∈ ns, x.1 ≠ D) :
    ∃ acc, H4 D = some (.lst acc) ∧ acc.length < sizeLine ∧ FInv H1 D Z (i + 1) (upd H4 D (.lst (acc ++ [y]))) := by
  obtain ⟨ys, s1, hd, hl, fd⟩ := f
  subst hl
  refine ⟨ys, s _ _ hd, Nat.lt_of_lt_of_le hi (by rw [sizeLine_eq]; decide), ys ++ [y], same_updD (s1.trans s) hD, upd_same, by simp, fd.snoc s z l n⟩
theorem FInv.same {Z : Nat → V → NdL → Prop} {i : Nat} {H : Hp} (f : FInv H1 D Z i H) : Same H1 H := let ⟨_, s, _⟩ := f; s
theorem FInv.has {Z : Nat → V → NdL → Prop} {i : Nat} {H : Hp} (f : FInv H1 D Z i H) : H D ≠ none := let ⟨_, _, e, _⟩ := f; by rw [e]; simp
theorem FInv.end {Z : Nat → V → NdL → Prop} {i : Nat} {H : Hp} (f : FInv H1 D Z i H) : ∃ ys, Same H1 H ∧ H D = some (.lst ys) ∧ ys.length = i ∧ Fill Z H ys := let ⟨ys, a, b, c, d⟩ := f; ⟨ys, a, b, c, d.fill⟩
/-- over enumerate of a list -/
theorem lc_enum {a : Addr} {xs : List V} (Pv : Nat → Hp → Prop) (h0 : Pv 0 (upd H1 D (.lst []))) (hl : ∀ i H, i ≤ xs.length → Pv i H → SqL K H a xs)
    (hs : ∀ i x T H, xs[i]? = some x → Pv i H → H T = none → g (.ref T) (wipe σ vs) (upd H T (.tup [.int (i : Nat), x])) fun σ2 H2 => wipe σ2 vs = wipe σ vs ∧ tt σ2 H2 fun b H3 =>
      if b = true then te σ2 H3 fun y H4 => ∃ acc, H4 D = some (.lst acc) ∧ acc.length < sizeLine ∧ Pv (i + 1) (upd H4 D (.lst (acc ++ [y]))) else Pv (i + 1) H3) (hd : ∀ H, Pv xs.length H → Qd H) :
    ∃ W : Nat → Nat → Hp → Prop, (∃ m, W 0 m (upd H1 D (.lst []))) ∧ ∀ i m H, W i m H →
      ((Ite K a).stop i H ∧ Qd H) ∨ ((Ite K a).go i H ∧ ∃ Nx : Hp → Prop, (∀ H', Nx H' → ∃ m', m' < m ∧ W (i + 1) m' H') ∧ ∀ x H', (Ite K a).yld i H x H' → g x (wipe σ vs) H' fun σ2 H2 => wipe σ2 vs = wipe σ vs ∧ tt σ2 H2 fun b H3 =>
        if b = true then te σ2 H3 fun y H4 => ∃ acc, H4 D = some (.lst acc) ∧ acc.length < sizeLine ∧ Nx (upd H4 D (.lst (acc ++ [y]))) else Nx H3) := by
  refine ⟨fun i m H => m = xs.length - i ∧ i ≤ xs.length ∧ Pv i H, ⟨xs.length, by simp, Nat.zero_le _, h0⟩, ?_⟩
  rintro i m H ⟨rfl, hi, p⟩
  have q := hl i H hi p
  by_cases hlt : i < xs.length
  · refine .inr ⟨⟨xs, xs[i], q, by simp [hlt]⟩, Pv (i + 1), fun H' p' => ⟨xs.length - (i + 1), by omega, rfl, hlt, p'⟩, fun x H' y => ?_⟩
    obtain ⟨T, z, e1, e2, e3, e4⟩ := y
    subst e1 e3
    exact hs i z T _ (e4 xs q) p e2
  · have e : i = xs.length := by omega
    subst e
    exact .inl ⟨⟨xs, q, Nat.le_refl _⟩, hd H p⟩
end
end L2
end
section
namespace JM
open Flags
/-! ### the program's own reckoning, over whole numbers -/
def cutI (m : Int) : List Int → List (List Int)
  | [] => [[]]
  | x :: r => if x = m then [] :: cutI m r else match cutI m r with
    | [] => [[x]]
    | w :: l => (x :: w) :: l
/-- one more byte at the end -/
def cutPut (m : Int) (ps : List (List Int)) (x : Int) : List (List Int) :=
  if x = m then ps ++ [[]] else ps.dropLast ++ [ps.getLastD [] ++ [x]]
theorem cutI_ne (m : Int) : ∀ l, cutI m l ≠ []
  | [] => by simp [cutI]
  | x :: r => by
    unfold cutI
    split
    · simp
    · split <;> simp
theorem cutPut_cons (m x : Int) (w : List Int) (l : List (List Int)) (h : l ≠ []) : cutPut m (w :: l) x = w :: cutPut m l x := by
  unfold cutPut
  split
  · rfl
  · cases l with
    | nil => exact absurd rfl h
    | cons a l => rfl
theorem cutI_snoc (m x : Int) : ∀ l, cutI m (l ++ [x]) = cutPut m (cutI m l) x
  | [] => by
    by_cases h : x = m <;> simp [cutI, cutPut, h]
  | y :: r => by
    have ih := cutI_snoc m x r
    have hne := cutI_ne m r
    show cutI m (y :: (r ++ [x])) = _
    unfold cutI
    split
    · rw [ih, cutPut_cons _ _ _ _ hne]
    · rw [ih]
      cases e : cutI m r with
      | nil => exact absurd e hne
      | cons w l =>
        cases l with
        | nil => by_cases hx : x = m <;> simp [cutPut, hx]
        | cons a l =>
          rw [cutPut_cons m x w (a :: l) (by simp)]
          show (y :: w) :: cutPut m (a :: l) x = cutPut m ((y :: w) :: a :: l) x
          rw [cutPut_cons m x (y :: w) (a :: l) (by simp)]
def hexs : List Int := [48, 49, 50, 51, 52, 53, 54, 55, 56, 57, 97, 98, 99, 100, 101, 102]
/-! ### bytes -/
def B (n : Int) : UInt8 := UInt8.ofNat n.toNat
def In8 (l : List Int) : Prop := ∀ x ∈ l, 0 ≤ x ∧ x ≤ 255
theorem toNat_B {x : Int} (h : 0 ≤ x ∧ x ≤ 255) : (B x).toNat = x.toNat := by
  unfold B
  rw [UInt8.toNat_ofNat']
  omega
theorem B_inj {x y : Int} (hx : 0 ≤ x ∧ x ≤ 255) (hy : 0 ≤ y ∧ y ≤ 255) (e : B x = B y) : x = y := by
  have := congrArg UInt8.toNat e
  rw [toNat_B hx, toNat_B hy] at this
  omega
theorem mapB_inj : ∀ {a b : List Int}, In8 a → In8 b → a.map B = b.map B → a = b
  | [], [], _, _, _ => rfl
  | [], _ :: _, _, _, e => by simp at e
  | _ :: _, [], _, _, e => by simp at e
  | x :: a, y :: b, ha, hb, e => by
    simp only [List.map_cons, List.cons.injEq] at e
    rw [B_inj (ha x List.mem_cons_self) (hb y List.mem_cons_self) e.1, mapB_inj (fun z hz => ha z (List.mem_cons_of_mem _ hz)) (fun z hz => hb z (List.mem_cons_of_mem _ hz)) e.2]
theorem cut_map (m : Int) (hm : 0 ≤ m ∧ m ≤ 255) : ∀ l, In8 l → cutAt (B m) (l.map B) = (cutI m l).map (·.map B)
  | [], _ => rfl
  | x :: r, h => by
    have hx := h x List.mem_cons_self
    have ih := cut_map m hm r fun z hz => h z (List.mem_cons_of_mem _ hz)
    show (if B x = B m then [] :: cutAt (B m) (r.map B) else match cutAt (B m) (r.map B) with
      | [] => [[B x]]
      | w :: l => (B x :: w) :: l) = (cutI m (x :: r)).map (·.map B)
    unfold cutI
    by_cases e : x = m
    · rw [if_pos e, if_pos (by rw [e]), ih]; rfl
    · rw [if_neg e, if_neg fun q => e (B_inj hx hm q), ih]
      cases cutI m r with
      | nil => rfl
      | cons w l => rfl
theorem cut_in (m : Int) : ∀ {l}, In8 l → ∀ w ∈ cutI m l, In8 w
  | [], _, w, hw => by
    simp [cutI] at hw
    subst hw
    intro z hz
    cases hz
  | x :: r, h, w, hw => by
    have ih := cut_in m (l := r) fun z hz => h z (List.mem_cons_of_mem _ hz)
    unfold cutI at hw
    split at hw
    · rcases List.mem_cons.mp hw with rfl | hw
      · intro z hz; cases hz
      · exact ih w hw
    · cases e : cutI m r with
      | nil => exact absurd e (cutI_ne m r)
      | cons a l =>
        rw [e] at hw ih
        rcases List.mem_cons.mp hw with rfl | hw
        · intro z hz
          rcases List.mem_cons.mp hz with rfl | hz
          · exact h _ List.mem_cons_self
          · exact ih a List.mem_cons_self z hz
        · exact ih w (List.mem_cons_of_mem _ hw)
end JM
end
section
namespace JM
open Flags
/-! ### cutting -/
/-! ### lines -/
theorem in8_of {l : List Int} (h : l.all (fun x => decide (0 ≤ x) && decide (x ≤ 255)) = true) : In8 l := fun x hx => by
  have := List.all_eq_true.mp h x hx
  simpa using this
theorem all_congr8 {l : List Int} (h : In8 l) {f g : Int → Bool} (e : ∀ x, 0 ≤ x ∧ x ≤ 255 → f x = g x) : l.all f = l.all g := by
  rw [Bool.eq_iff_iff, List.all_eq_true, List.all_eq_true]
  exact ⟨fun q x hx => by rw [← e x (h x hx)]; exact q x hx, fun q x hx => by rw [e x (h x hx)]; exact q x hx⟩
end JM
end
section
namespace JM
open Flags
/-! ### which line it is -/
end JM
end
section
namespace JM
open Flags
/-! ### all lines -/
theorem in8_text {p : List Int} (h : In8 p) : PlateNeutral.text? p = some (p.map B) := by
  unfold PlateNeutral.text?
  rw [if_pos ?_]
  · rfl
  · unfold NeutralIO.bytes
    rw [List.all_eq_true]
    intro x hx
    have := h x hx
    simp [this]
end JM
end
section
set_option Elab.async false
set_option linter.all false
set_option maxRecDepth 100000
namespace HD
open PySem PySem.Spec PyProof.Rows L2
def top (i : Nat) : Stmt := PySem.Challenge.pw_halfseendesk_s02_draw.main.body.getD i (.Pass ⟨0, 0, 0, 0⟩)
abbrev sClassesOf : Stmt := top 6
abbrev sCellBehind : Stmt := top 7
abbrev sCellsSeen : Stmt := top 8
abbrev sSpelled : Stmt := top 16
abbrev sCut : Stmt := top 17
abbrev sWholeLines : Stmt := top 18
abbrev sAmong : Stmt := top 19
abbrev sPlaces : Stmt := top 20
abbrev sColours : Stmt := top 21
abbrev sIsName : Stmt := top 22
abbrev sNameBehind : Stmt := top 23
abbrev sKindI : Stmt := inClass (top 34) 0
abbrev sLockerI : Stmt := inClass (top 35) 0
abbrev sReadLocker : Stmt := top 36
abbrev sReadName : Stmt := top 37
abbrev sReadDigit : Stmt := top 38
abbrev sReadKind : Stmt := top 39
abbrev sAreInOrder : Stmt := top 40
abbrev sMayFollow : Stmt := top 41
abbrev sAreDifferent : Stmt := top 42
abbrev sHasTwice : Stmt := top 43
abbrev sReadShowing : Stmt := top 48
abbrev sReadHoists : Stmt := top 49
abbrev sReadCount : Stmt := top 50
abbrev sIsOutOf : Stmt := top 51
abbrev sMeansARow : Stmt := top 52
abbrev sMeansASign : Stmt := top 53
abbrev sSightingI : Stmt := inClass (top 59) 0
abbrev sGlimpseI : Stmt := inClass (top 60) 0
abbrev sPlateI : Stmt := inClass (top 61) 0
abbrev sPlateText : Stmt := top 62
abbrev sHoistLine : Stmt := top 63
abbrev sCellsLines : Stmt := top 64
abbrev sSignsOf : Stmt := top 65
abbrev sSightingOf : Stmt := top 67
abbrev sDraw : Stmt := top 69
abbrev sPlateSeen : Stmt := top 70
abbrev sGlimpseOf : Stmt := top 71
end HD
end
section
set_option Elab.async false
set_option linter.all false
set_option maxRecDepth 100000
set_option maxHeartbeats 2000000
namespace HD
open PySem PySem.Spec PyProof.Rows L2
open PySem.W (Codec)
/-! ### words about heaps -/
/-- a new thing lies at p; all else is as it was -/
def New (H H' : Hp) (p : Addr) (o : HO) : Prop := Same H H' ∧ H p = none ∧ H' p = some o
theorem same_upd {H : Hp} {p : Addr} {o : HO} (h : H p = none) : Same H (upd H p o) := fun b u e => by rw [upd_ne (ne_of_none e h)]; exact e
theorem same_upd2 {H H1 : Hp} {p : Addr} {o : HO} (s : Same H H1) (h : H p = none) : Same H (upd H1 p o) := fun b u e => by rw [upd_ne (ne_of_none e h)]; exact s b u e
def codes (x : Str) : List Int := x.cps.toList.map fun n => ((n : Nat) : Int)
abbrev iv (l : List Int) : List V := l.map V.int
theorem iv_snoc (l : List Int) (z : Int) : iv (l ++ [z]) = iv l ++ [.int z] := by
  unfold iv
  rw [List.map_append]
  rfl
theorem yes_if {σ : L2.St} {H : Hp} {A B : Hp → Prop} (h : A H) : tYes σ H (fun b H3 => if b = true then A H3 else B H3) := by
  unfold tYes
  dsimp only
  rw [if_pos rfl]
  exact h
theorem take_snoc {α : Type} {l : List α} {i : Nat} {x : α} (h : l[i]? = some x) : l.take (i + 1) = l.take i ++ [x] := by
  rw [List.take_succ, h]
  rfl
theorem line_ge {n : Nat} (h : n ≤ 1000000) : n < sizeLine := Nat.lt_of_le_of_lt h (by rw [sizeLine_eq]; decide)
/-! ### spelled -/
def spSpelled : Sp := fun vs H Q _ => ∃ x : Str, vs = [.str x] ∧ x.cps.size ≤ 100000 ∧ ∀ H' p, New H H' p (.lst (iv (codes x))) → Q (.ref p) H'
section
variable {P : Program} {w : World} {K : PySem.W.Frag} {mg : Str → Option Value} {base : Heap}
theorem scSpelled : FnScope ["written", "sign"] ["written"] (defScope sSpelled) := ⟨rfl, rfl, rfl, by decide +kernel, rfl, by decide +kernel, by decide +kernel⟩
theorem ok_spelled {f : Addr} {fd : FuncData} (F : Fun K "spelled" "spelled" sSpelled f fd) (tOrd : mg "ord" = none) : FnOk P w K mg base CX0 1 f fd ["written"] spSpelled := by
  refine F.ok scSpelled (fun vs H Q E h => ?_) (fun cdv A outer s H vs Q E hr h => ?_)
  · obtain ⟨x, rfl, _⟩ := h
    rfl
  · obtain ⟨x, rfl, hx, k⟩ := h
    refine ⟨_, pss_one (ps_ret (pe_lc (own := [("sign", 1)]) rfl scSpelled.nd (pi_str (pv 0)) (blkOk_by (N := ["written", "sign"]) (sc := defScope sSpelled) (by decide +kernel)) (fun _ _ _ _ _ => pg_name (i := 1) scSpelled.nd rfl (Or.inl rfl)) (fun _ _ _ _ _ => pts_nil)
      (fun _ _ _ _ _ => pe_callB call_ord (by rfl) tOrd boot_ord (pa_cons (pv 1) pa_nil)))), ?_⟩
    refine ⟨_, rfl, x, rfl, fun D hD => lc_str (fun i H' => Same H H' ∧ H' D = some (.lst (iv ((codes x).take i)))) ⟨same_upd hD, upd_same⟩ (fun i c H' hc ⟨s1, hd⟩ => ⟨rfl, yes_if ?_⟩) (fun H' ⟨s1, hd⟩ => ?_)⟩
    · have hl : i < x.cps.size := (Array.getElem?_eq_some_iff.mp hc).1
      have hcx : (codes x)[i]? = some (c : Int) := by
        unfold codes
        rw [List.getElem?_map, Array.getElem?_toList, hc]
        rfl
      refine ⟨_, rfl, _, rfl, rfl, _, hd, ?_, same_upd2 s1 hD, ?_⟩
      · rw [List.length_map, List.length_take]
        exact Nat.lt_of_le_of_lt (Nat.min_le_left _ _) (line_ge (by omega))
      · rw [upd_same, take_snoc hcx, iv_snoc]
        rfl
    · refine k H' D ⟨s1, hD, ?_⟩
      rw [hd]
      have : (codes x).length = x.cps.size := by unfold codes; rw [List.length_map, Array.length_toList]
      rw [← this, List.take_length]
/-! ### cut -/
/-- the lists at qs hold L -/
abbrev Pts (H : Hp) (qs : List Addr) (L : List (List Int)) : Prop := Paired (fun q l => H q = some (.lst (iv l))) qs L
def spCut (K : PySem.W.Frag) : Sp := fun vs H Q _ => ∃ (a : Addr) (m : Int) (ns : List Int), vs = [.ref a, .int m] ∧ SqL K H a (iv ns) ∧ ns.length ≤ 100000 ∧
  ∀ H' p qs, New H H' p (.lst (qs.map V.ref)) → Pts H' qs (JM.cutI m ns) → qs.Nodup → p ∉ qs → (∀ q ∈ qs, H q = none) → Q (.ref p) H'
theorem Pts.same {H H' : Hp} {qs : List Addr} {L : List (List Int)} (h : Pts H qs L) (s : Same H H') : Pts H' qs L := Paired.mapP h fun q l e => s _ _ e
theorem Pts.len {H : Hp} {qs : List Addr} {L : List (List Int)} (h : Pts H qs L) : qs.length = L.length := Paired.length h
theorem Pts.upd {H : Hp} {p : Addr} {o : HO} : ∀ {qs : List Addr} {L : List (List Int)}, Pts H qs L → p ∉ qs → Pts (upd H p o) qs L
  | _, _, .nil, _ => .nil
  | _, _, .cons r t, n => .cons (by rw [upd_ne (fun z => n (by rw [z]; exact List.mem_cons_self))]; exact r) (Pts.upd t fun z => n (List.mem_cons_of_mem _ z))
theorem Pts.mem {H : Hp} : ∀ {qs : List Addr} {L : List (List Int)}, Pts H qs L → ∀ q ∈ qs, ∃ l ∈ L, H q = some (.lst (iv l))
  | _, _, .nil, q, h => absurd h (by simp)
  | _, _, .cons r t, q, h => by
    rcases List.mem_cons.mp h with rfl | h
    · exact ⟨_, List.mem_cons_self, r⟩
    · obtain ⟨l, hl, e⟩ := Pts.mem t q h
      exact ⟨l, List.mem_cons_of_mem _ hl, e⟩
theorem Pts.snoc {H : Hp} {q : Addr} {l : List Int} (e : H q = some (.lst (iv l))) : ∀ {qs : List Addr} {L : List (List Int)}, Pts H qs L → Pts H (qs ++ [q]) (L ++ [l])
  | _, _, .nil => .cons e .nil
  | _, _, .cons r t => .cons r (Pts.snoc e t)
theorem Pts.last {H : Hp} : ∀ {qs : List Addr} {L : List (List Int)}, Pts H qs L → L ≠ [] → ∃ qs' q, qs = qs' ++ [q] ∧ Pts H qs' L.dropLast ∧ H q = some (.lst (iv (L.getLastD [])))
  | _, _, .nil, h => absurd rfl h
  | [q], [l], .cons r .nil, _ => ⟨[], q, rfl, .nil, r⟩
  | q :: q2 :: qs, l :: l2 :: L, .cons r t, _ => by
    obtain ⟨qs', q', e, t', r'⟩ := Pts.last t (by simp)
    exact ⟨q :: qs', q', by rw [e]; rfl, .cons r t', r'⟩
theorem scCut : FnScope ["text", "mark", "parts", "byte"] ["text", "mark"] (defScope sCut) := ⟨rfl, rfl, rfl, by decide +kernel, rfl, by decide +kernel, by decide +kernel⟩
theorem cut_len (m : Int) : ∀ l : List Int, (JM.cutI m l).length ≤ l.length + 1
  | [] => by simp [JM.cutI]
  | x :: r => by
    have ih := cut_len m r
    unfold JM.cutI
    split
    · simp only [List.length_cons]; omega
    · split
      · simp
      · rename_i w l e
        rw [e] at ih
        simp only [List.length_cons] at ih ⊢
        omega
theorem cut_part (m : Int) : ∀ (l : List Int) (w : List Int), w ∈ JM.cutI m l → w.length ≤ l.length
  | [], w, h => by
    simp [JM.cutI] at h
    simp [h]
  | x :: r, w, h => by
    have ih := cut_part m r
    unfold JM.cutI at h
    split at h
    · rcases List.mem_cons.mp h with rfl | h
      · simp
      · have := ih w h
        simp only [List.length_cons]; omega
    · cases e : JM.cutI m r with
      | nil => exact absurd e (JM.cutI_ne m r)
      | cons w' l =>
        rw [e] at h ih
        rcases List.mem_cons.mp h with rfl | h
        · have := ih w' List.mem_cons_self
          simp only [List.length_cons]; omega
        · have := ih w (List.mem_cons_of_mem _ h)
          simp only [List.length_cons]; omega
theorem ok_cut {f : Addr} {fd : FuncData} (F : Fun K "cut" "cut" sCut f fd) : FnOk P w K mg base CX0 1 f fd ["text", "mark"] (spCut K) := by
  refine F.ok scCut (fun vs H Q E h => ?_) (fun cdv A outer s H vs Q E hr h => ?_)
  · obtain ⟨a, m, ns, rfl, _⟩ := h
    rfl
  · obtain ⟨a, m, ns, rfl, hS, hl, k⟩ := h
    refine ⟨_, pss_cons (ps_set (i := 2) scCut.nd rfl (Or.inl rfl) (pe_lst (pa_cons (pe_lst pa_nil) pa_nil)))
      (pss_cons (ps_for PassesOwn.never rfl (pi_list (pv 0)) (pg_name (i := 3) scCut.nd rfl (Or.inl rfl))
        (pss_one (ps_if (pt_cmpR op_eq (pv 3) (pv 1) (nomark _))
          (pss_one (ps_expr (pe_bm PySem.F.plainAttrs_list PySem.F.slot_list_append PySem.F.type_list_append mt_append (pv 2) (pa_cons (pe_lst pa_nil) pa_nil))))
          (pss_one (ps_expr (pe_bm PySem.F.plainAttrs_list PySem.F.slot_list_append PySem.F.type_list_append mt_append (pe_ix ix_list (pv 2) (pe_un un_neg pe_int) (fun _ _ => rfl)) (pa_cons (pv 3) pa_nil)))))))
      (pss_one (ps_ret (pv 2)))), ?_⟩
    refine ⟨Nat.zero_le _, fun q0 hq0 => ⟨(by show 1 ≤ sizeLine; decide), fun p hp => ?_⟩⟩
    have hp0 : H p = none := (same_upd hq0).free hp
    have pq : p ≠ q0 := fun z => by rw [z, upd_same] at hp; cases hp
    refine ⟨_, rfl, a, rfl, ⟨_, (same_upd2 (same_upd hq0) hp0).seq hS⟩, for_list (K := K) (a := a) (xs := iv ns) (fun i σ H' => ∃ (v : Option V) (qs : List Addr), σ = [some (.ref a), some (.int m), some (.ref p), v] ∧ Same H H' ∧ H' p = some (.lst (qs.map V.ref)) ∧ Pts H' qs (JM.cutI m (ns.take i)) ∧ qs.Nodup ∧ p ∉ qs ∧ ∀ q ∈ qs, H q = none)
      ⟨none, [q0], rfl, same_upd2 (same_upd hq0) hp0, upd_same, .cons (by rw [upd_ne (Ne.symm pq)]; exact upd_same) .nil, by simp, by simpa using pq, by simpa using hq0⟩ (fun i σ H' _ ⟨_, _, _, s1, _⟩ => s1.seq hS) ?_ ?_⟩
    · rintro i y σ H' hi ⟨v, qs, rfl, s1, h1, h2, h3, h4, h5⟩
      obtain ⟨z, hz, rfl⟩ : ∃ z, ns[i]? = some z ∧ y = V.int z := by
        rw [List.getElem?_map] at hi
        cases e : ns[i]? with
        | none => rw [e] at hi; cases hi
        | some z => rw [e] at hi; exact ⟨z, rfl, (Option.some.inj hi).symm⟩
      have hil : i < ns.length := (List.getElem?_eq_some_iff.mp hz).1
      have et := take_snoc hz
      have ec := JM.cutI_snoc m z (ns.take i)
      have lq : qs.length ≤ i + 1 := by
        rw [h2.len]
        refine Nat.le_trans (cut_len m _) ?_
        rw [List.length_take]
        omega
      refine ⟨_, rfl, _, rfl, rfl, _, rfl, ite2 (fun hc => ?_) (fun hc => ?_)⟩
      · have hc : z = m := by simpa using hc
        refine ⟨_, rfl, .inl ⟨rfl, _, SqL.of h1⟩, Nat.zero_le _, fun q hq => ⟨p, _, _, rfl, rfl, (by rw [upd_ne (ne_of_none h1 hq)]; exact h1), (by rw [List.length_map]; exact line_ge (by omega)), ?_⟩⟩
        have hqH : H q = none := s1.free hq
        have hqq : q ∉ qs := fun hm => by
          obtain ⟨l, _, r⟩ := Pts.mem h2 q hm
          rw [r] at hq
          cases hq
        refine ⟨_, qs ++ [q], rfl, same_upd2 (same_upd2 s1 hqH) hp0, ?_, ?_, ?_, ?_, ?_⟩
        · rw [upd_same, List.map_append]
          rfl
        · rw [et, ec]
          unfold JM.cutPut
          rw [if_pos hc]
          exact Pts.upd (Pts.snoc (l := []) upd_same (Pts.upd h2 hqq)) (fun z => by
            rcases List.mem_append.mp z with z | z
            · exact h4 z
            · exact ne_of_none h1 hq (by simpa using z))
        · exact nd_snoc h3 hqq
        · intro z
          rcases List.mem_append.mp z with z | z
          · exact h4 z
          · exact ne_of_none h1 hq (by simpa using z)
        · intro q' z
          rcases List.mem_append.mp z with z | z
          · exact h5 q' z
          · rw [show q' = q by simpa using z]
            exact hqH
      · have hc : ¬ z = m := by simpa using hc
        obtain ⟨qs', q, rfl, t', r'⟩ := Pts.last h2 (JM.cutI_ne m _)
        have nqs : q ∉ qs' := fun z => by
          have := (List.nodup_append.mp h3).2.2 q z q (by simp)
          exact this rfl
        refine ⟨_, rfl, _, rfl, p, _, _, V.ref q, rfl, rfl, SqL.of h1, ?_, .inl ⟨rfl, _, SqL.of r'⟩, _, rfl, q, _, _, rfl, rfl, r', ?_, ?_⟩
        · rw [List.map_append]
          exact atI_last _ _
        · rw [List.length_map]
          have : ((JM.cutI m (ns.take i)).getLastD []).length ≤ (ns.take i).length := by
            refine cut_part m _ _ ?_
            rw [List.getLastD_eq_getLast?]
            cases e : (JM.cutI m (ns.take i)).getLast? with
            | none => exact absurd (List.getLast?_eq_none_iff.mp e) (JM.cutI_ne m _)
            | some l => exact List.mem_of_getLast? e
          rw [List.length_take] at this
          exact line_ge (by omega)
        · have np : p ≠ q := fun z => h4 (by rw [z]; simp)
          refine ⟨_, qs' ++ [q], rfl, same_upd2 s1 (h5 q (by simp)), by rw [upd_ne np]; exact h1, ?_, h3, h4, h5⟩
          rw [et, ec]
          unfold JM.cutPut
          rw [if_neg hc]
          refine Pts.snoc ?_ (Pts.upd t' nqs)
          rw [upd_same]
          exact congrArg (fun z => some (HO.lst z)) (iv_snoc _ _).symm
    · rintro σ H' ⟨v, qs, rfl, s1, h1, h2, h3, h4, h5⟩
      rw [List.length_map, List.take_length] at h2
      exact ⟨_, rfl, k H' p qs ⟨s1, hp0, h1⟩ h2 h3 h4 h5⟩
end
end HD
end
section
set_option Elab.async false
set_option linter.all false
set_option maxRecDepth 100000
set_option maxHeartbeats 2000000
namespace HD
open PySem PySem.Spec PyProof.Rows L2
open PySem.W (Codec)
/-! ### place_among -/
def oI : Option Nat → V
  | some i => .int (i : Nat)
  | none => .non
def amongI (words : List (List Int)) (part : List Int) : Option Nat := words.findIdx? fun w => decide (w = part)
def spAmong (K : PySem.W.Frag) : Sp := fun vs H Q _ => ∃ (aw ap : Addr) (words : List Str) (part : List Int), vs = [.ref aw, .ref ap] ∧ SqT K H aw (words.map V.str) ∧ (∀ x ∈ words, x.cps.size ≤ 100000) ∧ SqL K H ap (iv part) ∧
  ∀ H', Same H H' → Q (oI (amongI (words.map codes) part)) H'
theorem find_none {α : Type} {p : α → Bool} {l : List α} (h : ∀ x ∈ l, p x = false) : l.findIdx? p = none := by
  rw [List.findIdx?_eq_none_iff]
  exact h
theorem find_at {α : Type} {p : α → Bool} : ∀ {l : List α} {i : Nat} {x : α}, l[i]? = some x → (∀ y ∈ l.take i, p y = false) → p x = true → l.findIdx? p = some i
  | [], i, x, h, _, _ => by simp at h
  | a :: l, 0, x, h, _, hp => by
    have e : a = x := Option.some.inj h
    subst e
    rw [List.findIdx?_cons, hp]
    rfl
  | a :: l, i + 1, x, h, hn, hp => by
    have h1 : p a = false := hn a (by simp)
    have ih := find_at (l := l) (i := i) (x := x) h (fun y hy => hn y (by rw [List.take_succ_cons]; exact List.mem_cons_of_mem _ hy)) hp
    rw [List.findIdx?_cons, h1, ih]
    rfl
theorem Same.tup {K : PySem.W.Frag} {H H' : Hp} {a : Addr} {xs : List V} (e : Same H H') (h : SqT K H a xs) : SqT K H' a xs := by
  rcases h with (h | ⟨o, h⟩) | h
  · exact .inl (.inl (e _ _ h))
  · exact .inl (.inr ⟨o, e _ _ h⟩)
  · exact .inr h
section
variable {P : Program} {w : World} {K : PySem.W.Frag} {mg : Str → Option Value} {base : Heap}
theorem scAmong : FnScope ["words", "part", "place", "word"] ["words", "part"] (defScope sAmong) := ⟨rfl, rfl, rfl, by decide +kernel, rfl, by decide +kernel, by decide +kernel⟩
theorem ok_among {f fS : Addr} {fd fdS : FuncData} (F : Fun K "place_among" "place_among" sAmong f fd) (tE : mg "enumerate" = none) (GS : FnOk P w K mg base CX0 1 fS fdS ["written"] spSpelled) (mS : mg "spelled" = some (.ref fS)) (kS : PySem.W.keepIn K (.ref fS) = true) (bS : Binds K fdS ["written"] []) :
    FnOk P w K mg base CX0 2 f fd ["words", "part"] (spAmong K) := by
  refine F.ok scAmong (fun vs H Q E h => ?_) (fun cdv A outer s H vs Q E hr h => ?_)
  · obtain ⟨aw, ap, words, part, rfl, _⟩ := h
    rfl
  · obtain ⟨aw, ap, words, part, rfl, hW, hw, hP, k⟩ := h
    refine ⟨_, pss_cons (ps_for PassesOwn.never rfl (pi_enumT (by rfl) tE (pa_cons (pv 0) pa_nil)) (pg_tup rfl (pgs_cons (pg_name (i := 2) scAmong.nd rfl (Or.inl rfl)) (pgs_cons (pg_name (i := 3) scAmong.nd rfl (Or.inl rfl)) pgs_nil)))
        (pss_one (ps_if (pt_cmpR (op_eqL hr.units) (pe_call GS hr rfl mS kS bS .nil pass0 (pa_cons (pv 3) pa_nil)) (pv 1) (nomark _)) (pss_one (ps_ret (pv 2))) pss_nil)))
      (pss_one (ps_ret pe_non)), ?_⟩
    refine ⟨_, rfl, aw, _, rfl, hW, for_enumT (K := K) (a := aw) (xs := words.map V.str) (fun i σ H' => ∃ v2 v3 : Option V, σ = [some (.ref aw), some (.ref ap), v2, v3] ∧ Same H H' ∧ ∀ y ∈ (words.map codes).take i, decide (y = part) = false)
      ⟨none, none, rfl, Same.refl H, fun y hy => absurd hy (by simp)⟩ (fun i σ H' _ ⟨_, _, _, s1, _⟩ => Same.tup s1 hW) ?_ ?_⟩
    · rintro i y T σ H' hi ⟨v2, v3, rfl, s1, hn⟩ hT
      obtain ⟨x, hx, rfl⟩ : ∃ x, words[i]? = some x ∧ y = V.str x := by
        rw [List.getElem?_map] at hi
        cases e : words[i]? with
        | none => rw [e] at hi; cases hi
        | some z => rw [e] at hi; exact ⟨z, rfl, (Option.some.inj hi).symm⟩
      have s2 := same_upd2 (o := .tup [.int (i : Nat), .str x]) s1 (s1.free hT)
      refine ⟨T, _, rfl, SqT.of upd_same, rfl, _, _, rfl, _, _, rfl, rfl, _, rfl, x, rfl, hw x (List.mem_of_getElem? hx), fun H2 p hN => ?_⟩
      have s3 := s2.trans hN.1
      have hcx : (words.map codes)[i]? = some (codes x) := by rw [List.getElem?_map, hx]; rfl
      refine ⟨_, rfl, p, ap, codes x, part, rfl, rfl, SqL.of hN.2.2, s3.seq hP, _, rfl, ite2 (fun hc => ?_) (fun hc => ?_)⟩
      · refine ⟨_, rfl, ?_⟩
        have e := find_at hcx hn hc
        have q := k H2 s3
        unfold amongI at q
        rw [e] at q
        exact q
      · refine ⟨_, _, rfl, s3, fun y hy => ?_⟩
        rw [take_snoc hcx] at hy
        rcases List.mem_append.mp hy with hy | hy
        · exact hn y hy
        · rw [List.mem_singleton.mp hy]
          simpa using hc
    · rintro σ H' ⟨v2, v3, rfl, s1, hn⟩
      have q := k H' s1
      rw [List.length_map] at hn
      unfold amongI at q
      rw [find_none (fun y hy => hn y (by rw [← List.length_map (f := codes), List.take_length]; exact hy))] at q
      exact q
/-! ### places_in -/
def placesI (signs part : List Int) : Option (List Int) := if part.all (fun b => signs.contains b) = true then some (part.map fun b => ((signs.idxOf b : Nat) : Int)) else none
def spPlaces (K : PySem.W.Frag) : Sp := fun vs H Q _ => ∃ (x : Str) (ap : Addr) (part : List Int), vs = [.str x, .ref ap] ∧ x.cps.size ≤ 100000 ∧ SqL K H ap (iv part) ∧ part.length ≤ 100000 ∧
  (placesI (codes x) part = none → ∀ H', Same H H' → Q .non H') ∧ ∀ l, placesI (codes x) part = some l → ∀ H' p, New H H' p (.lst (iv l)) → Q (.ref p) H'
theorem inV_iv (b : Int) : ∀ l : List Int, inV (.int b) (iv l) = l.contains b
  | [] => rfl
  | x :: l => by
    have ih := inV_iv b l
    unfold inV iv at ih ⊢
    rw [List.map_cons, List.any_cons, ih, List.contains_cons]
    congr 1
    show (x == b) = (b == x)
    by_cases h : x = b
    · subst h; rfl
    · have h2 : ¬ b = x := fun z => h z.symm
      rw [beq_eq_false_iff_ne.mpr h, beq_eq_false_iff_ne.mpr h2]
theorem flat_iv : ∀ l : List Int, (iv l).all flatV = true
  | [] => rfl
  | x :: l => by
    show (flatV (.int x) && (iv l).all flatV) = true
    rw [flat_iv l]
    rfl
theorem getI {l : List Int} {i : Nat} {y : V} (h : (iv l)[i]? = some y) : ∃ z, l[i]? = some z ∧ y = V.int z := by
  unfold iv at h
  rw [List.getElem?_map] at h
  cases e : l[i]? with
  | none => rw [e] at h; cases h
  | some z => rw [e] at h; exact ⟨z, rfl, (Option.some.inj h).symm⟩
theorem bl_snoc (l : List Bool) (b : Bool) : (l ++ [b]).map V.bl = l.map V.bl ++ [.bl b] := by
  rw [List.map_append]
  rfl
theorem idx_at {l : List Int} {b : Int} (h : l.contains b = true) : ∃ j z, l.idxOf b = j ∧ (iv l)[j]? = some z ∧ eqV z (.int b) = true ∧ ∀ (m : Nat) (z' : V), m < j → (iv l)[m]? = some z' → eqV z' (.int b) = false := by
  have hm : b ∈ l := by simpa using h
  have hlt : l.idxOf b < l.length := List.idxOf_lt_length_of_mem hm
  refine ⟨_, .int b, rfl, ?_, ?_, fun m z' hm' hz => ?_⟩
  · unfold iv
    rw [List.getElem?_map, List.getElem?_eq_getElem hlt, List.getElem_idxOf]
    rfl
  · show (b == b) = true
    exact beq_self_eq_true b
  · obtain ⟨z, hz2, rfl⟩ := getI hz
    show (z == b) = false
    have := List.not_of_lt_findIdx (p := (· == b)) (xs := l) (i := m) hm'
    obtain ⟨hl, e⟩ := List.getElem?_eq_some_iff.mp hz2
    rw [e] at this
    simpa using this
theorem scPlaces : FnScope ["signs", "part", "known", "byte"] ["signs", "part"] (defScope sPlaces) := ⟨rfl, rfl, rfl, by decide +kernel, rfl, by decide +kernel, by decide +kernel⟩
theorem ok_places {f fS : Addr} {fd fdS : FuncData} (F : Fun K "places_in" "places_in" sPlaces f fd) (tA : mg "all" = none) (GS : FnOk P w K mg base CX0 1 fS fdS ["written"] spSpelled) (mS : mg "spelled" = some (.ref fS)) (kS : PySem.W.keepIn K (.ref fS) = true) (bS : Binds K fdS ["written"] []) :
    FnOk P w K mg base CX0 2 f fd ["signs", "part"] (spPlaces K) := by
  refine F.ok scPlaces (fun vs H Q E h => ?_) (fun cdv A outer s H vs Q E hr h => ?_)
  · obtain ⟨x, ap, part, rfl, _⟩ := h
    rfl
  · obtain ⟨x, ap, part, rfl, hx, hP, hl, k0, k1⟩ := h
    refine ⟨_, pss_cons (ps_set (i := 2) scPlaces.nd rfl (Or.inr rfl) (pe_call GS hr rfl mS kS bS .nil pass0 (pa_cons (pv 0) pa_nil)))
      (pss_cons (ps_if (pt_not (pt_val (pe_callB (cr_all rfl) (by rfl) tA boot_all (pa_cons (pe_lc (own := [("byte", 3)]) (te := tOp (rIn K false) (tVar 3) (tVar 2)) rfl scPlaces.nd (pi_list (pv 1)) (blkOk_by (N := ["signs", "part", "known", "byte"]) (sc := defScope sPlaces) (by decide +kernel)) (fun _ _ _ _ _ => pg_name (i := 3) scPlaces.nd rfl (Or.inl rfl)) (fun _ _ _ _ _ => pts_nil)
            (fun _ _ _ _ _ => pe_cmpR op_in_seq (pv 3) (pv 2) (by with_unfolding_all rfl))) pa_nil)))) (pss_one (ps_ret pe_non)) pss_nil)
      (pss_one (ps_ret (pe_lc (own := [("byte", 3)]) (te := tBM K "list" (rIndex K) (tVar 2) (tCons (tVar 3) tNil)) rfl scPlaces.nd (pi_list (pv 1)) (blkOk_by (N := ["signs", "part", "known", "byte"]) (sc := defScope sPlaces) (by decide +kernel)) (fun _ _ _ _ _ => pg_name (i := 3) scPlaces.nd rfl (Or.inl rfl)) (fun _ _ _ _ _ => pts_nil)
            (fun _ _ _ _ _ => pe_bm PySem.F.plainAttrs_list PySem.F.slot_list_index PySem.F.type_list_index mt_index (pv 2) (pa_cons (pv 3) pa_nil)))))), ?_⟩
    refine ⟨_, rfl, x, rfl, hx, fun H1 pk hN => ?_⟩
    have s1 := hN.1
    refine ⟨_, rfl, ap, rfl, ⟨_, s1.seq hP⟩, fun D hD => lc_list (K := K) (a := ap) (xs := iv part) (fun i H' => Same H1 H' ∧ H' D = some (.lst (((part.take i).map fun b => (codes x).contains b).map V.bl))) ⟨same_upd hD, upd_same⟩
      (fun i H' _ ⟨s2, _⟩ => (s1.trans s2).seq hP) (fun i y H' hi ⟨s2, hd⟩ => ?_) (fun H' ⟨s2, hd⟩ => ?_)⟩
    · obtain ⟨z, hz, rfl⟩ := getI hi
      have hil : i < part.length := (List.getElem?_eq_some_iff.mp hz).1
      refine ⟨rfl, yes_if ⟨_, rfl, _, rfl, pk, _, rfl, .inl (SqL.of (s2 _ _ hN.2.2)), rfl, flat_iv _, _, hd, ?_, same_upd2 s2 hD, ?_⟩⟩
      · rw [List.length_map, List.length_map, List.length_take]
        exact line_ge (by omega)
      · rw [upd_same, take_snoc hz, List.map_append]
        show some (HO.lst (_ ++ [V.bl (inV (.int z) (iv (codes x)))])) = some (HO.lst ((_ ++ [_]).map V.bl))
        rw [bl_snoc, inV_iv]
    · rw [show (iv part).length = part.length by unfold iv; rw [List.length_map], List.take_length] at hd
      refine ⟨D, _, rfl, SqL.of hd, _, rfl, ?_⟩
      have ea : (part.map fun b => (codes x).contains b).all id = part.all fun b => (codes x).contains b := by
        rw [List.all_map]
        rfl
      rw [ea]
      show if (!(part.all fun b => (codes x).contains b)) = true then _ else _
      refine ite2 (fun hc => ?_) (fun hc => ?_)
      · have hc : part.all (fun b => (codes x).contains b) = false := by simpa using hc
        refine k0 ?_ H' (s1.trans s2)
        unfold placesI
        rw [hc]
        rfl
      · have hc : part.all (fun b => (codes x).contains b) = true := by simpa using hc
        have e1 : placesI (codes x) part = some (part.map fun b => (((codes x).idxOf b : Nat) : Int)) := by
          unfold placesI
          rw [if_pos hc]
        refine ⟨_, rfl, ap, rfl, ⟨_, (s1.trans s2).seq hP⟩, fun D2 hD2 => lc_list (K := K) (a := ap) (xs := iv part) (fun i H'' => Same H' H'' ∧ H'' D2 = some (.lst (iv ((part.take i).map fun b => (((codes x).idxOf b : Nat) : Int))))) ⟨same_upd hD2, upd_same⟩
          (fun i H'' _ ⟨s3, _⟩ => ((s1.trans s2).trans s3).seq hP) (fun i y H'' hi ⟨s3, hd3⟩ => ?_) (fun H'' ⟨s3, hd3⟩ => ?_)⟩
        · obtain ⟨z, hz, rfl⟩ := getI hi
          have hil : i < part.length := (List.getElem?_eq_some_iff.mp hz).1
          obtain ⟨j, zz, ej, hj, hj1, hj2⟩ := idx_at (List.all_eq_true.mp hc z (List.mem_of_getElem? hz))
          have hk := (s2.trans s3) _ _ hN.2.2
          refine ⟨rfl, yes_if ⟨_, rfl, .inl ⟨rfl, _, SqL.of hk⟩, _, rfl, pk, _, _, j, zz, rfl, rfl, SqL.of hk, rfl, flat_iv _, hj, hj1, hj2, _, hd3, ?_, same_upd2 s3 hD2, ?_⟩⟩
          · unfold iv
            rw [List.length_map, List.length_map, List.length_take]
            exact line_ge (by omega)
          · rw [upd_same, take_snoc hz, List.map_append, ← ej]
            exact congrArg (fun z => some (HO.lst z)) (iv_snoc _ _).symm
        · rw [show (iv part).length = part.length by unfold iv; rw [List.length_map], List.take_length] at hd3
          exact k1 _ e1 H'' D2 ⟨(s1.trans s2).trans s3, (s1.trans s2).free hD2, hd3⟩
/-! ### read_colours -/
def coloursI (part : List Int) : Option (List Int) := if part.length = 16 then placesI JM.hexs part else none
def spColours (K : PySem.W.Frag) : Sp := fun vs H Q _ => ∃ (ap : Addr) (part : List Int), vs = [.ref ap] ∧ SqL K H ap (iv part) ∧ part.length ≤ 100000 ∧
  (coloursI part = none → ∀ H', Same H H' → Q .non H') ∧ ∀ l, coloursI part = some l → ∀ H' p, New H H' p (.lst (iv l)) → Q (.ref p) H'
theorem scColours : FnScope ["part"] ["part"] (defScope sColours) := ⟨rfl, rfl, rfl, by decide +kernel, rfl, by decide +kernel, by decide +kernel⟩
theorem iv_len (l : List Int) : (iv l).length = l.length := by unfold iv; rw [List.length_map]
theorem ok_colours {f fP : Addr} {fd fdP : FuncData} (F : Fun K "read_colours" "read_colours" sColours f fd) (tL : mg "len" = none) {uC : Value} (mC : mg "COLOUR_SIGNS" = some uC) (rC : RelV (.str "0123456789abcdef") uC)
    (GP : FnOk P w K mg base CX0 2 fP fdP ["signs", "part"] (spPlaces K)) (mP : mg "places_in" = some (.ref fP)) (kP : PySem.W.keepIn K (.ref fP) = true) (bP : Binds K fdP ["signs", "part"] []) :
    FnOk P w K mg base CX0 3 f fd ["part"] (spColours K) := by
  refine F.ok scColours (fun vs H Q E h => ?_) (fun cdv A outer s H vs Q E hr h => ?_)
  · obtain ⟨ap, part, rfl, _⟩ := h
    rfl
  · obtain ⟨ap, part, rfl, hP, hl, k0, k1⟩ := h
    refine ⟨_, pss_cons (ps_if (pt_cmpR op_ne (pe_callB call_len_seq (by rfl) tL PySem.boot_len (pa_cons (pv 0) pa_nil)) pe_int (nomark _)) (pss_one (ps_ret pe_non)) pss_nil)
      (pss_one (ps_ret (pe_call GP hr rfl mP kP bP .nil pass0 (pa_cons (pe_glob (by rfl) mC rC) (pa_cons (pv 0) pa_nil))))), ?_⟩
    refine ⟨_, rfl, ap, _, rfl, .inl hP, rfl, _, rfl, ite2 (fun hc => ?_) (fun hc => ?_)⟩
    · have hc : ¬ part.length = 16 := by
        intro z
        rw [iv_len, z] at hc
        exact absurd hc (by decide)
      refine k0 ?_ H (Same.refl H)
      unfold coloursI
      rw [if_neg hc]
    · have hc : part.length = 16 := by
        by_cases z : part.length = 16
        · exact z
        · exfalso
          apply hc
          rw [iv_len]
          simp only [Bool.not_eq_true', decide_eq_false_iff_not]
          intro q
          injection q with q
          omega
      have e : coloursI part = placesI (codes "0123456789abcdef") part := by
        unfold coloursI
        rw [if_pos hc]
        rfl
      exact ⟨_, rfl, _, ap, part, rfl, by decide, hP, hl, fun z H' s1 => k0 (e.trans z) H' s1, fun l z H' p hN => k1 l (e.trans z) H' p hN⟩
end
end HD
end
section
set_option Elab.async false
set_option linter.all false
set_option maxRecDepth 100000
set_option maxHeartbeats 2000000
namespace HD
open PySem PySem.Spec PyProof.Rows L2
open PySem.W (Codec)
/-- a def of the text under its name -/
def Def (K : PySem.W.Frag) (mg : Str → Option Value) (x : Str) (st : Stmt) (ps : List Str) : Prop := ∃ f fd, Fun K x x st f fd ∧ mg x = some (.ref f) ∧ PySem.W.keepIn K (.ref f) = true ∧ L2.Binds K fd ps []
/-- .. that keeps a promise -/
def Dn (P : Program) (w : World) (K : PySem.W.Frag) (mg : Str → Option Value) (base : Heap) (CX : CXT) (k : Nat) (x : Str) (ps : List Str) (sp : Sp) : Prop :=
  ∃ f fd, FnOk P w K mg base CX k f fd ps sp ∧ mg x = some (.ref f) ∧ PySem.W.keepIn K (.ref f) = true ∧ L2.Binds K fd ps []
theorem Def.dn {P : Program} {w : World} {K : PySem.W.Frag} {mg : Str → Option Value} {base : Heap} {CX : CXT} {k : Nat} {x : Str} {st : Stmt} {ps : List Str} {sp : Sp} (D : Def K mg x st ps) (h : ∀ f fd, Fun K x x st f fd → FnOk P w K mg base CX k f fd ps sp) : Dn P w K mg base CX k x ps sp :=
  let ⟨f, fd, F, m, kp, b⟩ := D
  ⟨f, fd, h f fd F, m, kp, b⟩
/-- a constant of the text -/
def Cn (mg : Str → Option Value) (x : Str) (v : V) : Prop := ∃ u, mg x = some u ∧ RelV v u
/-- a tuple of the text -/
def Tn (K : PySem.W.Frag) (mg : Str → Option Value) (x : Str) (xs : List V) : Prop := ∃ a, mg x = some (.ref a) ∧ ∀ H, SqT K H a xs
/-- a list, or None -/
def LstAt (H H' : Hp) : Option (List Int) → V → Prop
  | none, v => v = .non
  | some l, v => ∃ c, v = .ref c ∧ H c = none ∧ H' c = some (.lst (iv l))
end HD
end
section
set_option Elab.async false
set_option linter.all false
set_option maxRecDepth 100000
set_option maxHeartbeats 2000000
namespace HD
open PySem PySem.Spec PyProof.Rows L2
open PySem.W (Codec)
/-! ### a plate as it lies: content and addresses -/
structure SgA where
  a : Addr
  dx : Addr
  l : Addr
  shape : Nat
  cells : List Int
structure GlA where
  a : Addr
  dx : Addr
  l : Addr
  above : Bool
  below : Bool
  flags : List SgA
structure PlA where
  a : Addr
  dx : Addr
  cl : Addr
  gl : Addr
  side : Nat
  classes : List Int
  glimpses : List GlA
/-- the three classes -/
structure Cs where
  S : Addr
  G : Addr
  P : Addr
abbrev Nd := Addr × HO
def sgF (s : SgA) : List (Str × V) := [("shape", .int (s.shape : Nat)), ("cells", .ref s.l)]
def glF (g : GlA) : List (Str × V) := [("above", .bl g.above), ("below", .bl g.below), ("flags", .ref g.l)]
def plF (p : PlA) : List (Str × V) := [("side", .int (p.side : Nat)), ("classes", .ref p.cl), ("glimpses", .ref p.gl)]
def sgN (C : Cs) (s : SgA) : List Nd := [(s.a, .ins C.S s.dx (sgF s)), (s.l, .lst (iv s.cells))]
def glN (C : Cs) (g : GlA) : List Nd := (g.a, .ins C.G g.dx (glF g)) :: (g.l, .lst (g.flags.map fun s => V.ref s.a)) :: g.flags.flatMap (sgN C)
def plN (C : Cs) (p : PlA) : List Nd := (p.a, .ins C.P p.dx (plF p)) :: (p.cl, .lst (iv p.classes)) :: (p.gl, .lst (p.glimpses.map fun g => V.ref g.a)) :: p.glimpses.flatMap (glN C)
/-- it lies so -/
def Lies (H : Hp) (ns : List Nd) : Prop := ∀ x ∈ ns, H x.1 = some x.2
theorem Lies.same {H H' : Hp} {ns : List Nd} (h : Lies H ns) (s : Same H H') : Lies H' ns := fun x hx => s _ _ (h x hx)
/-! ### the content alone -/
structure GlM where
  above : Bool
  below : Bool
  flags : List (Nat × List Int)
structure PlM where
  side : Nat
  classes : List Int
  glimpses : List GlM
def SgA.m (s : SgA) : Nat × List Int := (s.shape, s.cells)
def GlA.m (g : GlA) : GlM := ⟨g.above, g.below, g.flags.map SgA.m⟩
def PlA.m (p : PlA) : PlM := ⟨p.side, p.classes, p.glimpses.map GlA.m⟩
/-! ### reading it -/
section
variable {C : Cs} {H : Hp} {p : PlA}
theorem Lies.pl (h : Lies H (plN C p)) : H p.a = some (.ins C.P p.dx (plF p)) := h (p.a, _) (by unfold plN; simp)
theorem Lies.cl (h : Lies H (plN C p)) : H p.cl = some (.lst (iv p.classes)) := h (p.cl, _) (by unfold plN; simp)
theorem Lies.gl (h : Lies H (plN C p)) : H p.gl = some (.lst (p.glimpses.map fun g => V.ref g.a)) := h (p.gl, _) (by unfold plN; simp)
theorem Lies.sub (h : Lies H (plN C p)) {g : GlA} (hg : g ∈ p.glimpses) : Lies H (glN C g) := fun x hx => h x (by
  unfold plN
  exact List.mem_cons_of_mem _ (List.mem_cons_of_mem _ (List.mem_cons_of_mem _ (List.mem_flatMap.mpr ⟨g, hg, hx⟩))))
theorem Lies.ga {g : GlA} (h : Lies H (glN C g)) : H g.a = some (.ins C.G g.dx (glF g)) := h (g.a, _) (by unfold glN; simp)
theorem Lies.fl {g : GlA} (h : Lies H (glN C g)) : H g.l = some (.lst (g.flags.map fun s => V.ref s.a)) := h (g.l, _) (by unfold glN; simp)
theorem Lies.sub2 {g : GlA} (h : Lies H (glN C g)) {s : SgA} (hs : s ∈ g.flags) : Lies H (sgN C s) := fun x hx => h x (by
  unfold glN
  exact List.mem_cons_of_mem _ (List.mem_cons_of_mem _ (List.mem_flatMap.mpr ⟨s, hs, hx⟩)))
theorem Lies.sa {s : SgA} (h : Lies H (sgN C s)) : H s.a = some (.ins C.S s.dx (sgF s)) := h (s.a, _) (by unfold sgN; simp)
theorem Lies.sl {s : SgA} (h : Lies H (sgN C s)) : H s.l = some (.lst (iv s.cells)) := h (s.l, _) (by unfold sgN; simp)
end
theorem lk_eq {f : Str} {v : V} {r : List (Str × V)} : ((f, v) :: r).lookup f = some v := by
  rw [List.lookup_cons, beq_self_eq_true]
theorem lk_ne {f g : Str} {v : V} {r : List (Str × V)} (h : (f == g) = false) : ((g, v) :: r).lookup f = r.lookup f := by
  rw [List.lookup_cons, h]
theorem plF_side (p : PlA) : (plF p).lookup ("side" : Str) = some (.int (p.side : Nat)) := lk_eq
theorem plF_classes (p : PlA) : (plF p).lookup ("classes" : Str) = some (.ref p.cl) := (lk_ne (by decide +kernel)).trans lk_eq
theorem plF_glimpses (p : PlA) : (plF p).lookup ("glimpses" : Str) = some (.ref p.gl) := (lk_ne (by decide +kernel)).trans ((lk_ne (by decide +kernel)).trans lk_eq)
theorem glF_above (g : GlA) : (glF g).lookup ("above" : Str) = some (.bl g.above) := lk_eq
theorem glF_below (g : GlA) : (glF g).lookup ("below" : Str) = some (.bl g.below) := (lk_ne (by decide +kernel)).trans lk_eq
theorem glF_flags (g : GlA) : (glF g).lookup ("flags" : Str) = some (.ref g.l) := (lk_ne (by decide +kernel)).trans ((lk_ne (by decide +kernel)).trans lk_eq)
theorem sgF_shape (s : SgA) : (sgF s).lookup ("shape" : Str) = some (.int (s.shape : Nat)) := lk_eq
theorem sgF_cells (s : SgA) : (sgF s).lookup ("cells" : Str) = some (.ref s.l) := (lk_ne (by decide +kernel)).trans lk_eq
/-- the three classes, in the text -/
structure CsT (K : PySem.W.Frag) (C : Cs) : Prop where
  cS : Cls K C.S
  cG : Cls K C.G
  cP : Cls K C.P
  nShape : NoAttr K C.S "shape"
  nCells : NoAttr K C.S "cells"
  nAbove : NoAttr K C.G "above"
  nBelow : NoAttr K C.G "below"
  nFlags : NoAttr K C.G "flags"
  nSide : NoAttr K C.P "side"
  nClasses : NoAttr K C.P "classes"
  nGlimpses : NoAttr K C.P "glimpses"
theorem last_cases {α : Type} (l : List α) : l = [] ∨ ∃ r x, l = r ++ [x] := by
  cases e : l.getLast? with
  | none => exact .inl (List.getLast?_eq_none_iff.mp e)
  | some x =>
    right
    obtain ⟨r, hr⟩ := List.getLast?_eq_some_iff.mp e
    exact ⟨r, x, hr⟩
/-! ### making an object of two, three values -/
def spMk (C : Addr) (ns : List Str) : Sp := fun vs H Q _ => ∃ (x dx : Addr) (as : List V), vs = .ref x :: as ∧ as.length = ns.length ∧ H x = some (.ins C dx []) ∧ ∀ H', H' x = some (.ins C dx (ns.zip as)) → (∀ b o, H b = some o → b ≠ x → H' b = some o) → Q .non H'
def MkD (P : Program) (w : World) (K : PySem.W.Frag) (mg : Str → Option Value) (base : Heap) (x : Str) (C : Addr) (ns : List Str) : Prop :=
  ∃ f fd, Mk K C f ∧ FnOk P w K mg base CX0 1 f fd ("self" :: ns) (spMk C ns) ∧ mg x = some (.ref C) ∧ L2.Binds K fd ("self" :: ns) []
theorem putF_ne {f g : Str} {v x : V} {r : List (Str × V)} (h : ¬ g = f) : putF f v ((g, x) :: r) = (g, x) :: putF f v r := by
  show (if g = f then (g, v) :: r else (g, x) :: putF f v r) = _
  rw [if_neg h]
section
variable {P : Program} {w : World} {K : PySem.W.Frag} {mg : Str → Option Value} {base : Heap} {C : Cs}
theorem scSightingI : FnScope ["self", "shape", "cells"] ["self", "shape", "cells"] (defScope sSightingI) := ⟨rfl, rfl, rfl, by decide +kernel, rfl, by decide +kernel, by decide +kernel⟩
theorem ok_sightingI {f : Addr} {fd : FuncData} (F : Fun K "__init__" "Sighting.__init__" sSightingI f fd) (T : CsT K C) : FnOk P w K mg base CX0 1 f fd ["self", "shape", "cells"] (spMk C.S ["shape", "cells"]) := by
  refine F.ok scSightingI (fun vs H Q E h => ?_) (fun cdv A outer s H vs Q E hr h => ?_)
  · obtain ⟨x, dx, as, rfl, hl, _⟩ := h
    exact congrArg (· + 1) hl
  · obtain ⟨x, dx, as, rfl, hl, h1, k⟩ := h
    obtain ⟨a, b, rfl⟩ : ∃ a b, as = [a, b] := by
      match as, hl with
      | [a, b], _ => exact ⟨a, b, rfl⟩
    refine ⟨_, pss_cons (ps_fld (pv 0) (pv 1) rfl) (pss_one (ps_fld (pv 0) (pv 2) rfl)), ?_⟩
    refine ⟨_, rfl, _, rfl, x, C.S, dx, [], rfl, h1, T.cS, T.nShape, (by show 0 < 1000; decide), _, rfl, _, rfl, x, C.S, dx, _, rfl, upd_same, T.cS, T.nCells, (by show 1 < 1000; decide), ?_⟩
    refine k _ ?_ fun b o e hb => by rw [upd_ne hb, upd_ne hb]; exact e
    rw [upd_same]
    exact congrArg (fun z => some (HO.ins C.S dx z)) (putF_ne (by decide +kernel))
theorem scGlimpseI : FnScope ["self", "above", "below", "flags"] ["self", "above", "below", "flags"] (defScope sGlimpseI) := ⟨rfl, rfl, rfl, by decide +kernel, rfl, by decide +kernel, by decide +kernel⟩
theorem ok_glimpseI {f : Addr} {fd : FuncData} (F : Fun K "__init__" "Glimpse.__init__" sGlimpseI f fd) (T : CsT K C) : FnOk P w K mg base CX0 1 f fd ["self", "above", "below", "flags"] (spMk C.G ["above", "below", "flags"]) := by
  refine F.ok scGlimpseI (fun vs H Q E h => ?_) (fun cdv A outer s H vs Q E hr h => ?_)
  · obtain ⟨x, dx, as, rfl, hl, _⟩ := h
    exact congrArg (· + 1) hl
  · obtain ⟨x, dx, as, rfl, hl, h1, k⟩ := h
    obtain ⟨a, b, c, rfl⟩ : ∃ a b c, as = [a, b, c] := by
      match as, hl with
      | [a, b, c], _ => exact ⟨a, b, c, rfl⟩
    refine ⟨_, pss_cons (ps_fld (pv 0) (pv 1) rfl) (pss_cons (ps_fld (pv 0) (pv 2) rfl) (pss_one (ps_fld (pv 0) (pv 3) rfl))), ?_⟩
    refine ⟨_, rfl, _, rfl, x, C.G, dx, [], rfl, h1, T.cG, T.nAbove, (by show 0 < 1000; decide), _, rfl, _, rfl, x, C.G, dx, _, rfl, upd_same, T.cG, T.nBelow, (by show 1 < 1000; decide),
      _, rfl, _, rfl, x, C.G, dx, _, rfl, upd_same, T.cG, T.nFlags, ?_, ?_⟩
    · exact Nat.lt_of_le_of_lt (length_putF _ _ _) (by show 2 < 1000; decide)
    · refine k _ ?_ fun b o e hb => by rw [upd_ne hb, upd_ne hb, upd_ne hb]; exact e
      rw [upd_same]
      refine congrArg (fun z => some (HO.ins C.G dx z)) ?_
      show putF "flags" c (putF "below" b [("above", a)]) = _
      rw [putF_ne (by decide +kernel), show putF ("below" : Str) b [] = [(("below" : Str), b)] from rfl, putF_ne (by decide +kernel), putF_ne (by decide +kernel)]
      rfl
theorem scPlateI : FnScope ["self", "side", "classes", "glimpses"] ["self", "side", "classes", "glimpses"] (defScope sPlateI) := ⟨rfl, rfl, rfl, by decide +kernel, rfl, by decide +kernel, by decide +kernel⟩
theorem ok_plateI {f : Addr} {fd : FuncData} (F : Fun K "__init__" "Plate.__init__" sPlateI f fd) (T : CsT K C) : FnOk P w K mg base CX0 1 f fd ["self", "side", "classes", "glimpses"] (spMk C.P ["side", "classes", "glimpses"]) := by
  refine F.ok scPlateI (fun vs H Q E h => ?_) (fun cdv A outer s H vs Q E hr h => ?_)
  · obtain ⟨x, dx, as, rfl, hl, _⟩ := h
    exact congrArg (· + 1) hl
  · obtain ⟨x, dx, as, rfl, hl, h1, k⟩ := h
    obtain ⟨a, b, c, rfl⟩ : ∃ a b c, as = [a, b, c] := by
      match as, hl with
      | [a, b, c], _ => exact ⟨a, b, c, rfl⟩
    refine ⟨_, pss_cons (ps_fld (pv 0) (pv 1) rfl) (pss_cons (ps_fld (pv 0) (pv 2) rfl) (pss_one (ps_fld (pv 0) (pv 3) rfl))), ?_⟩
    refine ⟨_, rfl, _, rfl, x, C.P, dx, [], rfl, h1, T.cP, T.nSide, (by show 0 < 1000; decide), _, rfl, _, rfl, x, C.P, dx, _, rfl, upd_same, T.cP, T.nClasses, (by show 1 < 1000; decide),
      _, rfl, _, rfl, x, C.P, dx, _, rfl, upd_same, T.cP, T.nGlimpses, ?_, ?_⟩
    · exact Nat.lt_of_le_of_lt (length_putF _ _ _) (by show 2 < 1000; decide)
    · refine k _ ?_ fun b o e hb => by rw [upd_ne hb, upd_ne hb, upd_ne hb]; exact e
      rw [upd_same]
      refine congrArg (fun z => some (HO.ins C.P dx z)) ?_
      show putF "glimpses" c (putF "classes" b [("side", a)]) = _
      rw [putF_ne (by decide +kernel), show putF ("classes" : Str) b [] = [(("classes" : Str), b)] from rfl, putF_ne (by decide +kernel), putF_ne (by decide +kernel)]
      rfl
end
end HD
end
section
set_option Elab.async false
set_option linter.all false
set_option maxRecDepth 100000
set_option maxHeartbeats 2000000
namespace HD
open PySem PySem.Spec PyProof.Rows L2
open PySem.W (Codec)
/-! ### is_name -/
def nameSigns : Str := "ABCDEFGHIJKLMNOPQRSTUVWXYZ0123456789"
def isNameI (part : List Int) : Bool := decide (1 ≤ part.length) && (decide (part.length ≤ 8) && part.all fun b => (codes nameSigns).contains b)
def spIsName (K : PySem.W.Frag) : Sp := fun vs H Q _ => ∃ (ap : Addr) (part : List Int), vs = [.ref ap] ∧ SqL K H ap (iv part) ∧ part.length ≤ 100000 ∧ ∀ H', Same H H' → Q (.bl (isNameI part)) H'
section
variable {P : Program} {w : World} {K : PySem.W.Frag} {mg : Str → Option Value} {base : Heap}
theorem scIsName : FnScope ["part"] ["part"] (defScope sIsName) := ⟨rfl, rfl, rfl, by decide +kernel, rfl, by decide +kernel, by decide +kernel⟩
theorem ok_isName {f : Addr} {fd : FuncData} (F : Fun K "is_name" "is_name" sIsName f fd) (tL : mg "len" = none) (cL : Cn mg "LONGEST_NAME" (.int 8)) (cN : Cn mg "NAME_SIGNS" (.str nameSigns))
    (dP : Dn P w K mg base CX0 2 "places_in" ["signs", "part"] (spPlaces K)) : FnOk P w K mg base CX0 3 f fd ["part"] (spIsName K) := by
  obtain ⟨uL, mL, rL⟩ := cL
  obtain ⟨uN, mN, rN⟩ := cN
  obtain ⟨fP, fdP, GP, mP, kP, bP⟩ := dP
  refine F.ok scIsName (fun vs H Q E h => ?_) (fun cdv A outer s H vs Q E hr h => ?_)
  · obtain ⟨ap, part, rfl, _⟩ := h
    rfl
  · obtain ⟨ap, part, rfl, hP, hl, k⟩ := h
    refine ⟨_, pss_one (ps_ret (pe_and (pe_chain op_le op_le pe_int (pe_callB call_len_seq (by rfl) tL PySem.boot_len (pa_cons (pv 0) pa_nil)) (pe_glob (by rfl) mL rL))
      (pe_one (pe_cmp (pc_notN (pe_call GP hr rfl mP kP bP .nil pass0 (pa_cons (pe_glob (by rfl) mN rN) (pa_cons (pv 0) pa_nil)))))))), ?_⟩
    have e1 : decide ((1 : Int) ≤ (((iv part).length : Nat) : Int)) = decide (1 ≤ part.length) := by
      rw [iv_len]
      by_cases z : 1 ≤ part.length
      · rw [decide_eq_true z, decide_eq_true (by omega)]
      · rw [decide_eq_false z, decide_eq_false (by omega)]
    have e2 : decide ((((iv part).length : Nat) : Int) ≤ 8) = decide (part.length ≤ 8) := by
      rw [iv_len]
      by_cases z : part.length ≤ 8
      · rw [decide_eq_true z, decide_eq_true (by omega)]
      · rw [decide_eq_false z, decide_eq_false (by omega)]
    have q := k
    unfold isNameI at q
    refine ⟨_, rfl, ap, _, rfl, .inl hP, _, _, rfl, rfl, _, rfl, ?_⟩
    rw [e1]
    refine ite2 (fun hc => ?_) (fun hc => ?_)
    · refine ⟨_, _, rfl, rfl, _, rfl, ?_⟩
      rw [e2]
      refine ite2 (fun hd => ?_) (fun hd => ?_)
      · rw [hc, hd, Bool.true_and, Bool.true_and] at q
        refine ⟨_, rfl, nameSigns, ap, part, rfl, by decide, hP, hl, fun z H' s1 => ?_, fun l z H' p hN => ?_⟩
        · have q := q _ s1
          unfold placesI at z
          by_cases y : part.all (fun b => (codes nameSigns).contains b) = true
          · rw [if_pos y] at z; cases z
          · rw [show part.all (fun b => (codes nameSigns).contains b) = false by simpa using y] at q
            exact q
        · have q := q _ hN.1
          unfold placesI at z
          by_cases y : part.all (fun b => (codes nameSigns).contains b) = true
          · rw [y] at q
            exact q
          · rw [if_neg y] at z; cases z
      · have hd : decide (part.length ≤ 8) = false := by simpa using hd
        rw [hd, Bool.false_and, Bool.and_false] at q
        exact q _ (Same.refl H)
    · have hc : decide (1 ≤ part.length) = false := by simpa using hc
      rw [hc, Bool.false_and] at q
      exact ⟨_, rfl, q _ (Same.refl H)⟩
/-! ### name_behind -/
def nameBehI (t : List Int) (line : List Int) : Option (List Int) := match JM.cutI 32 line with
  | [a, b] => if a = t ∧ isNameI b = true then some b else none
  | _ => none
def spNameBeh (K : PySem.W.Frag) : Sp := fun vs H Q _ => ∃ (x : Str) (ap : Addr) (line : List Int), vs = [.str x, .ref ap] ∧ x.cps.size ≤ 100000 ∧ SqL K H ap (iv line) ∧ line.length ≤ 100000 ∧ ∀ H' v, Same H H' → LstAt H H' (nameBehI (codes x) line) v → Q v H'
theorem two_of {l : List (List Int)} (h : l.length = 2) : ∃ a b, l = [a, b] := by
  match l, h with
  | [a, b], _ => exact ⟨a, b, rfl⟩
theorem scNameBeh : FnScope ["title", "line", "words"] ["title", "line"] (defScope sNameBehind) := ⟨rfl, rfl, rfl, by decide +kernel, rfl, by decide +kernel, by decide +kernel⟩
theorem ok_nameBeh {f : Addr} {fd : FuncData} (F : Fun K "name_behind" "name_behind" sNameBehind f fd) (tL : mg "len" = none) (cB : Cn mg "BLANK" (.int 32))
    (dC : Dn P w K mg base CX0 1 "cut" ["text", "mark"] (spCut K)) (dS : Dn P w K mg base CX0 1 "spelled" ["written"] spSpelled) (dN : Dn P w K mg base CX0 3 "is_name" ["part"] (spIsName K)) :
    FnOk P w K mg base CX0 4 f fd ["title", "line"] (spNameBeh K) := by
  obtain ⟨uB, mB, rB⟩ := cB
  obtain ⟨fC, fdC, GC, mC, kC, bC⟩ := dC
  obtain ⟨fS, fdS, GS, mSp, kS, bS⟩ := dS
  obtain ⟨fN, fdN, GN, mN, kN, bN⟩ := dN
  refine F.ok scNameBeh (fun vs H Q E h => ?_) (fun cdv A outer s H vs Q E hr h => ?_)
  · obtain ⟨x, ap, part, rfl, _⟩ := h
    rfl
  · obtain ⟨x, ap, line, rfl, hx, hP, hl, k⟩ := h
    have hr1 : Room 1 _ := hr.mono (by decide)
    refine ⟨_, pss_cons (ps_set (i := 2) scNameBeh.nd rfl (Or.inl rfl) (pe_call GC hr1 rfl mC kC bC .nil pass0 (pa_cons (pv 1) (pa_cons (pe_glob (by rfl) mB rB) pa_nil))))
      (pss_cons (ps_if (PW.pt (pw_or (pt_cmpR op_ne (pe_callB call_len_seq (by rfl) tL PySem.boot_len (pa_cons (pv 2) pa_nil)) pe_int (nomark _))
          (pw_or (pt_cmpR (op_neL hr.units) (pe_ix ix_list (pv 2) pe_int (fun _ _ => rfl)) (pe_call GS hr1 rfl mSp kS bS .nil pass0 (pa_cons (pv 0) pa_nil)) (nomark _))
          (pw_or1 (pt_not (pt_val (pe_call GN hr rfl mN kN bN .nil pass0 (pa_cons (pe_ix ix_list (pv 2) pe_int (fun _ _ => rfl)) pa_nil)))))))) (pss_one (ps_ret pe_non)) pss_nil)
      (pss_one (ps_ret (pe_ix ix_list (pv 2) pe_int (fun _ _ => rfl))))), ?_⟩
    refine ⟨_, rfl, ap, 32, line, rfl, hP, hl, fun H1 p qs hN hp nd np hf => ?_⟩
    have hlen : ((qs.map V.ref).length : Int) = ((JM.cutI 32 line).length : Nat) := by rw [List.length_map, hp.len]
    have s1 := hN.1
    refine ⟨_, rfl, p, _, rfl, .inl (SqL.of hN.2.2), rfl, _, rfl, ite2 (fun hc => ?_) (fun hc => ?_)⟩
    · refine k H1 .non s1 ?_
      have : nameBehI (codes x) line = none := by
        unfold nameBehI
        split
        · rename_i a b e
          rw [hlen, e] at hc
          exact absurd hc (by simp)
        · rfl
      rw [this]
      rfl
    · have h2 : (JM.cutI 32 line).length = 2 := by
        by_cases z : (JM.cutI 32 line).length = 2
        · exact z
        · exfalso
          apply hc
          rw [hlen]
          simp only [Bool.not_eq_true', decide_eq_false_iff_not]
          intro q
          injection q with q
          omega
      obtain ⟨a, b, e2⟩ := two_of h2
      rw [e2] at hp
      have en : nameBehI (codes x) line = if a = codes x ∧ isNameI b = true then some b else none := by unfold nameBehI; rw [e2]
      have hb8 : ∀ w ∈ [a, b], w.length ≤ 100000 := fun w hw => Nat.le_trans (cut_part 32 line w (by rw [e2]; exact hw)) hl
      obtain ⟨qa, qb, rfl⟩ : ∃ x y, qs = [x, y] := by
        have := hp.len
        match qs, this with
        | [x, y], _ => exact ⟨x, y, rfl⟩
      cases hp with
      | cons ha hp =>
        cases hp with
        | cons hb hp =>
          refine ⟨_, rfl, p, _, 0, V.ref qa, rfl, rfl, SqL.of hN.2.2, rfl, _, rfl, x, rfl, hx, fun H2 p2 hN2 => ?_⟩
          have s2 := s1.trans hN2.1
          refine ⟨qa, p2, a, codes x, rfl, rfl, SqL.of (hN2.1 _ _ ha), SqL.of hN2.2.2, _, rfl, ite2 (fun hd => ?_) (fun hd => ?_)⟩
          · refine k H2 .non s2 ?_
            have hd : ¬ a = codes x := by simpa using hd
            rw [en, if_neg (fun z => hd z.1)]
            rfl
          · have hd : a = codes x := by simpa using hd
            refine ⟨_, rfl, p, _, 1, V.ref qb, rfl, rfl, SqL.of (hN2.1 _ _ hN.2.2), rfl, qb, b, rfl, SqL.of (hN2.1 _ _ hb), hb8 b (by simp), fun H3 s3 => ⟨_, rfl, ?_⟩⟩
            refine ite2 (fun hn => ?_) (fun hn => ?_)
            · have hn : ¬ isNameI b = true := by simpa using hn
              refine k H3 .non (s2.trans s3) ?_
              rw [en, if_neg (fun z => hn z.2)]
              rfl
            · have hn : isNameI b = true := by simpa using hn
              refine ⟨_, rfl, p, _, 1, V.ref qb, rfl, rfl, SqL.of (s3 _ _ (hN2.1 _ _ hN.2.2)), rfl, ?_⟩
              refine k H3 (.ref qb) (s2.trans s3) ?_
              rw [en, if_pos ⟨hd, hn⟩]
              exact ⟨qb, rfl, hf qb (by simp), s3 _ _ (hN2.1 _ _ hb)⟩
/-! ### whole_lines -/
def wholeI (text : List Int) : Option (List (List Int)) := if (JM.cutI 10 text).getLastD [] = [] then some (JM.cutI 10 text).dropLast else none
def PtsAt (H H' : Hp) : Option (List (List Int)) → V → Prop
  | none, v => v = .non
  | some L, v => ∃ p qs, v = .ref p ∧ H p = none ∧ H' p = some (.lst (qs.map V.ref)) ∧ Pts H' qs L ∧ (∀ q ∈ qs, H q = none)
def spWhole (K : PySem.W.Frag) : Sp := fun vs H Q _ => ∃ (ap : Addr) (text : List Int), vs = [.ref ap] ∧ SqL K H ap (iv text) ∧ text.length ≤ 100000 ∧ ∀ H' v, Same H H' → PtsAt H H' (wholeI text) v → Q v H'
theorem scWholeL : FnScope ["text", "lines", "rest"] ["text"] (defScope sWholeLines) := ⟨rfl, rfl, rfl, by decide +kernel, rfl, by decide +kernel, by decide +kernel⟩
theorem ok_wholeL {f : Addr} {fd : FuncData} (F : Fun K "whole_lines" "whole_lines" sWholeLines f fd) (cL : Cn mg "LINE_END" (.int 10)) (dC : Dn P w K mg base CX0 1 "cut" ["text", "mark"] (spCut K)) :
    FnOk P w K mg base CX0 2 f fd ["text"] (spWhole K) := by
  obtain ⟨uL, mL, rL⟩ := cL
  obtain ⟨fC, fdC, GC, mC, kC, bC⟩ := dC
  refine F.ok scWholeL (fun vs H Q E h => ?_) (fun cdv A outer s H vs Q E hr h => ?_)
  · obtain ⟨ap, part, rfl, _⟩ := h
    rfl
  · obtain ⟨ap, text, rfl, hP, hl, k⟩ := h
    refine ⟨_, pss_cons (ps_set (i := 1) scWholeL.nd rfl (Or.inl rfl) (pe_call GC hr rfl mC kC bC .nil pass0 (pa_cons (pv 0) (pa_cons (pe_glob (by rfl) mL rL) pa_nil))))
      (pss_cons (ps_set (i := 2) scWholeL.nd rfl (Or.inl rfl) (pe_bm0 PySem.F.plainAttrs_list PySem.F.slot_list_pop PySem.F.type_list_pop mt_pop (pv 1)))
      (pss_one (ps_ret (pe_ifExp (pt_cmpR (op_eq0 hr.units) (pv 2) (pe_lst pa_nil) (nomark _)) (pv 1) pe_non)))), ?_⟩
    refine ⟨_, rfl, ap, 10, text, rfl, hP, hl, fun H1 pl qs hN hp nd np hf => ?_⟩
    obtain ⟨qs', qr, rfl, hp', hr'⟩ := Pts.last hp (JM.cutI_ne 10 text)
    have s1 := hN.1
    refine ⟨_, rfl, .inl ⟨rfl, _, SqL.of hN.2.2⟩, pl, _, V.ref qr, rfl, rfl, hN.2.2, ?_, ?_⟩
    · rw [List.map_append]
      simp
    have eL : (((qs' ++ [qr]).map V.ref).dropLast) = qs'.map V.ref := by rw [List.map_append]; simp
    rw [eL]
    have np1 : pl ∉ qs' := fun z => np (List.mem_append_left _ z)
    have npr : qr ≠ pl := fun z => np (by rw [← z]; simp)
    have sb : Same H (upd H1 pl (.lst (qs'.map V.ref))) := same_upd2 s1 hN.2.1
    have ptb := Pts.upd (o := .lst (qs'.map V.ref)) hp' np1
    have rb : (upd H1 pl (.lst (qs'.map V.ref))) qr = some (.lst (iv ((JM.cutI 10 text).getLastD []))) := by rw [upd_ne npr]; exact hr'
    have lb : (upd H1 pl (.lst (qs'.map V.ref))) pl = some (.lst (qs'.map V.ref)) := upd_same
    generalize (upd H1 pl (.lst (qs'.map V.ref))) = Hb at sb ptb rb lb
    refine ⟨_, rfl, Nat.zero_le _, fun e1 n1 => ?_⟩
    have s2 := same_upd2 (o := .lst []) sb (sb.free n1)
    have sb2 : Same Hb (upd Hb e1 (.lst [])) := same_upd n1
    refine ⟨qr, e1, _, rfl, rfl, SqL.of (sb2 _ _ rb), SqL.of upd_same, _, rfl, ite2 (fun hc => ?_) (fun hc => ?_)⟩
    · have hc : (JM.cutI 10 text).getLastD [] = [] := by simpa using hc
      refine ⟨_, rfl, k _ _ s2 ?_⟩
      unfold wholeI
      rw [if_pos hc]
      exact ⟨pl, qs', rfl, hN.2.1, sb2 _ _ lb, ptb.same sb2, fun q hq => hf q (List.mem_append_left _ hq)⟩
    · have hc : ¬ (JM.cutI 10 text).getLastD [] = [] := by simpa using hc
      refine k _ _ s2 ?_
      unfold wholeI
      rw [if_neg hc]
      rfl
end
end HD
end
section
set_option Elab.async false
set_option linter.all false
set_option maxRecDepth 100000
set_option maxHeartbeats 2000000
namespace HD
open PySem PySem.Spec PyProof.Rows L2
open PySem.W (Codec)
/-! ### kinds and lockers -/
structure KdM where
  role : Nat
  name : List Int
  which : Int
  copies : Int
  shape : Nat
  look : List Int
structure KdA where
  a : Addr
  dx : Addr
  nm : Addr
  lk : Addr
  m : KdM
def kdF (k : KdA) : List (Str × V) := [("role", .int (k.m.role : Nat)), ("name", .ref k.nm), ("which", .int k.m.which), ("copies", .int k.m.copies), ("shape", .int (k.m.shape : Nat)), ("look", .ref k.lk)]
def kdN (C : Addr) (k : KdA) : NdL := [(k.a, .ins C k.dx (kdF k)), (k.nm, .lst (iv k.m.name)), (k.lk, .lst (iv k.m.look))]
theorem kdF_role (k : KdA) : (kdF k).lookup ("role" : Str) = some (.int (k.m.role : Nat)) := lk_eq
theorem kdF_name (k : KdA) : (kdF k).lookup ("name" : Str) = some (.ref k.nm) := (lk_ne (by decide +kernel)).trans lk_eq
theorem kdF_which (k : KdA) : (kdF k).lookup ("which" : Str) = some (.int k.m.which) := (lk_ne (by decide +kernel)).trans ((lk_ne (by decide +kernel)).trans lk_eq)
theorem kdF_copies (k : KdA) : (kdF k).lookup ("copies" : Str) = some (.int k.m.copies) := (lk_ne (by decide +kernel)).trans ((lk_ne (by decide +kernel)).trans ((lk_ne (by decide +kernel)).trans lk_eq))
theorem kdF_shape (k : KdA) : (kdF k).lookup ("shape" : Str) = some (.int (k.m.shape : Nat)) := (lk_ne (by decide +kernel)).trans ((lk_ne (by decide +kernel)).trans ((lk_ne (by decide +kernel)).trans ((lk_ne (by decide +kernel)).trans lk_eq)))
theorem kdF_look (k : KdA) : (kdF k).lookup ("look" : Str) = some (.ref k.lk) := (lk_ne (by decide +kernel)).trans ((lk_ne (by decide +kernel)).trans ((lk_ne (by decide +kernel)).trans ((lk_ne (by decide +kernel)).trans ((lk_ne (by decide +kernel)).trans lk_eq))))
/-- a locker as it lies -/
structure LkA where
  a : Addr
  dx : Addr
  nm : Addr
  kl : Addr
  name : List Int
  kinds : List KdA
def lkF (l : LkA) : List (Str × V) := [("name", .ref l.nm), ("kinds", .ref l.kl)]
/-- the kinds, in a list -/
def ksN (C : Addr) (ks : List KdA) : NdL := ks.flatMap (kdN C)
theorem lkF_kinds (l : LkA) : (lkF l).lookup ("kinds" : Str) = some (.ref l.kl) := (lk_ne (by decide +kernel)).trans lk_eq
/-- the class Kind, Locker -/
structure KdT (K : PySem.W.Frag) (C : Addr) : Prop where
  c : Cls K C
  nRole : NoAttr K C "role"
  nName : NoAttr K C "name"
  nWhich : NoAttr K C "which"
  nCopies : NoAttr K C "copies"
  nShape : NoAttr K C "shape"
  nLook : NoAttr K C "look"
structure LkT (K : PySem.W.Frag) (C : Addr) : Prop where
  c : Cls K C
  nName : NoAttr K C "name"
  nKinds : NoAttr K C "kinds"
/-- a plain own exception -/
structure XpT (K : PySem.W.Frag) (mg : Str → Option Value) (x : Str) (C N : Addr) : Prop where
  c : XC K C N
  ini : PySem.W.nsIn K N "__init__" = some none
  mC : mg x = some (.ref C)
  keep : PySem.W.keepIn K (.ref C) = true
section
variable {P : Program} {w : World} {K : PySem.W.Frag} {mg : Str → Option Value} {base : Heap} {C CN N : Addr}
theorem scKindI : FnScope ["self", "role", "name", "which", "copies", "shape", "look"] ["self", "role", "name", "which", "copies", "shape", "look"] (defScope sKindI) := ⟨rfl, rfl, rfl, by decide +kernel, rfl, by decide +kernel, by decide +kernel⟩
theorem putF_all {f : Str} {v : V} : ∀ {fs : List (Str × V)}, (∀ x ∈ fs.map (·.1), ¬ x = f) → putF f v fs = fs ++ [(f, v)]
  | [], _ => rfl
  | (g, x) :: r, h => by
    rw [putF_ne (h g (by simp)), putF_all fun y hy => h y (List.mem_cons_of_mem _ hy)]
    rfl
theorem ok_kindI {f : Addr} {fd : FuncData} (F : Fun K "__init__" "Kind.__init__" sKindI f fd) (T : KdT K C) : FnOk P w K mg base CX0 1 f fd ["self", "role", "name", "which", "copies", "shape", "look"] (spMk C ["role", "name", "which", "copies", "shape", "look"]) := by
  refine F.ok scKindI (fun vs H Q E h => ?_) (fun cdv A outer s H vs Q E hr h => ?_)
  · obtain ⟨x, dx, as, rfl, hl, _⟩ := h
    exact congrArg (· + 1) hl
  · obtain ⟨x, dx, as, rfl, hl, h1, k⟩ := h
    obtain ⟨a, b, c, d, e, g, rfl⟩ : ∃ a b c d e g, as = [a, b, c, d, e, g] := by
      match as, hl with
      | [a, b, c, d, e, g], _ => exact ⟨a, b, c, d, e, g, rfl⟩
    refine ⟨_, pss_cons (ps_fld (pv 0) (pv 1) rfl) (pss_cons (ps_fld (pv 0) (pv 2) rfl) (pss_cons (ps_fld (pv 0) (pv 3) rfl) (pss_cons (ps_fld (pv 0) (pv 4) rfl) (pss_cons (ps_fld (pv 0) (pv 5) rfl) (pss_one (ps_fld (pv 0) (pv 6) rfl)))))), ?_⟩
    have e2 : putF ("name" : Str) b [(("role" : Str), a)] = ([("role", a), ("name", b)] : List (Str × V)) := putF_all (by simp only [List.map_cons, List.map_nil]; decide +kernel)
    have e3 : putF ("which" : Str) c [(("role" : Str), a), ("name", b)] = ([("role", a), ("name", b), ("which", c)] : List (Str × V)) := putF_all (by simp only [List.map_cons, List.map_nil]; decide +kernel)
    have e4 : putF ("copies" : Str) d [(("role" : Str), a), ("name", b), ("which", c)] = ([("role", a), ("name", b), ("which", c), ("copies", d)] : List (Str × V)) := putF_all (by simp only [List.map_cons, List.map_nil]; decide +kernel)
    have e5 : putF ("shape" : Str) e [(("role" : Str), a), ("name", b), ("which", c), ("copies", d)] = ([("role", a), ("name", b), ("which", c), ("copies", d), ("shape", e)] : List (Str × V)) := putF_all (by simp only [List.map_cons, List.map_nil]; decide +kernel)
    have e6 : putF ("look" : Str) g [(("role" : Str), a), ("name", b), ("which", c), ("copies", d), ("shape", e)] = ([("role", a), ("name", b), ("which", c), ("copies", d), ("shape", e), ("look", g)] : List (Str × V)) := putF_all (by simp only [List.map_cons, List.map_nil]; decide +kernel)
    refine ⟨_, rfl, _, rfl, x, C, dx, [], rfl, h1, T.c, T.nRole, (by show 0 < 1000; decide), _, rfl, _, rfl, x, C, dx, [("role", a)], rfl, upd_same, T.c, T.nName, (by show 1 < 1000; decide),
      _, rfl, _, rfl, x, C, dx, [("role", a), ("name", b)], rfl, ?_, T.c, T.nWhich, (by show 2 < 1000; decide), _, rfl, _, rfl, x, C, dx, [("role", a), ("name", b), ("which", c)], rfl, ?_, T.c, T.nCopies, (by show 3 < 1000; decide),
      _, rfl, _, rfl, x, C, dx, [("role", a), ("name", b), ("which", c), ("copies", d)], rfl, ?_, T.c, T.nShape, (by show 4 < 1000; decide), _, rfl, _, rfl, x, C, dx, [("role", a), ("name", b), ("which", c), ("copies", d), ("shape", e)], rfl, ?_, T.c, T.nLook, (by show 5 < 1000; decide), ?_⟩
    · rw [upd_same, e2]
    · rw [upd_same, e3]
    · rw [upd_same, e4]
    · rw [upd_same, e5]
    · refine k _ ?_ fun b o e hb => by rw [upd_ne hb, upd_ne hb, upd_ne hb, upd_ne hb, upd_ne hb, upd_ne hb]; exact e
      rw [upd_same, e6]
      rfl
theorem scLockerI : FnScope ["self", "name", "kinds"] ["self", "name", "kinds"] (defScope sLockerI) := ⟨rfl, rfl, rfl, by decide +kernel, rfl, by decide +kernel, by decide +kernel⟩
theorem ok_lockerI {f : Addr} {fd : FuncData} (F : Fun K "__init__" "Locker.__init__" sLockerI f fd) (T : LkT K C) : FnOk P w K mg base CX0 1 f fd ["self", "name", "kinds"] (spMk C ["name", "kinds"]) := by
  refine F.ok scLockerI (fun vs H Q E h => ?_) (fun cdv A outer s H vs Q E hr h => ?_)
  · obtain ⟨x, dx, as, rfl, hl, _⟩ := h
    exact congrArg (· + 1) hl
  · obtain ⟨x, dx, as, rfl, hl, h1, k⟩ := h
    obtain ⟨a, b, rfl⟩ : ∃ a b, as = [a, b] := by
      match as, hl with
      | [a, b], _ => exact ⟨a, b, rfl⟩
    refine ⟨_, pss_cons (ps_fld (pv 0) (pv 1) rfl) (pss_one (ps_fld (pv 0) (pv 2) rfl)), ?_⟩
    refine ⟨_, rfl, _, rfl, x, C, dx, [], rfl, h1, T.c, T.nName, (by show 0 < 1000; decide), _, rfl, _, rfl, x, C, dx, _, rfl, upd_same, T.c, T.nKinds, (by show 1 < 1000; decide), ?_⟩
    refine k _ ?_ fun b o e hb => by rw [upd_ne hb, upd_ne hb]; exact e
    rw [upd_same]
    exact congrArg (fun z => some (HO.ins C dx z)) (putF_ne (by decide +kernel))
/-! ### read_name, read_digit -/
/-- a refusal of the locker -/
abbrev No (E : XK) (C : Addr) (H : Hp) : Prop := ∀ H', Same H H' → E (.ref C) none H'
theorem No.go {E : XK} {C : Addr} {H : Hp} (h : No E C H) {H1 : Hp} (s : Same H H1) : No E C H1 := fun H2 s2 => h H2 (s.trans s2)
/-- raise C() -/
theorem raise0 {E : XK} {C : Addr} {H : Hp} (h : No E C H) : ∀ x, H x = none → ∃ (a : Addr) (od : Option Addr), V.ref x = V.ref a ∧ upd H x (exc C none .none x) a = some (exc C od .none a) ∧ (∀ d, od = some d → d ≠ a) ∧ E (.ref C) od (upd H x (exc C none .none x)) :=
  fun x hx => ⟨x, none, rfl, upd_same, fun d z => (by cases z), h _ (same_upd hx)⟩
def spReadName (K : PySem.W.Frag) (CN : Addr) : Sp := fun vs H Q E => ∃ (ap : Addr) (part : List Int), vs = [.ref ap] ∧ SqL K H ap (iv part) ∧ part.length ≤ 100000 ∧ (isNameI part = true → ∀ H', Same H H' → Q (.ref ap) H') ∧ (isNameI part = false → No E CN H)
theorem scReadName : FnScope ["word"] ["word"] (defScope sReadName) := ⟨rfl, rfl, rfl, by decide +kernel, rfl, by decide +kernel, by decide +kernel⟩
theorem ok_readName {f : Addr} {fd : FuncData} (F : Fun K "read_name" "read_name" sReadName f fd) (X : XpT K mg "NoLocker" CN N) (dN : Dn P w K mg base CX0 3 "is_name" ["part"] (spIsName K)) :
    FnOk P w K mg base (CXf P w) 4 f fd ["word"] (spReadName K CN) := by
  obtain ⟨fN, fdN, GN, mN, kN, bN⟩ := dN
  refine F.okx scReadName (fun vs H Q E h => (by obtain ⟨ap, part, rfl, _⟩ := h; rfl)) (fun cdv A outer s H vs Q E hr h => ?_)
  obtain ⟨ap, part, rfl, hP, hl, k1, k2⟩ := h
  refine ⟨_, pss_cons (ps_if (pt_not (pt_val (pe_call GN hr rfl mN kN bN .nil pass0 (pa_cons (pv 0) pa_nil)))) (pss_one (ps_raise hr.hd X.c (pe_mkx0 X.c X.ini X.keep rfl X.mC))) pss_nil) (pss_one (ps_ret (pv 0))), ?_⟩
  refine ⟨_, rfl, ap, part, rfl, hP, hl, fun H1 s1 => ⟨_, rfl, ite2 (fun hc => ?_) (fun hc => ?_)⟩⟩
  · exact raise0 ((k2 (by simpa using hc)).go s1)
  · exact ⟨_, rfl, k1 (by simpa using hc) H1 s1⟩
def digitI (w : List Int) (most : Int) : Option Int := match w with
  | [d] => if d < 49 ∨ d > 48 + most then none else some (d - 48)
  | _ => none
def spReadDigit (K : PySem.W.Frag) (CN : Addr) : Sp := fun vs H Q E => ∃ (ap : Addr) (part : List Int) (most : Int), vs = [.ref ap, .int most] ∧ SqL K H ap (iv part) ∧ part.length ≤ 100000 ∧ (∀ d, digitI part most = some d → ∀ H', Same H H' → Q (.int d) H') ∧ (digitI part most = none → No E CN H)
theorem scReadDigit : FnScope ["word", "most"] ["word", "most"] (defScope sReadDigit) := ⟨rfl, rfl, rfl, by decide +kernel, rfl, by decide +kernel, by decide +kernel⟩
theorem ok_readDigit {f : Addr} {fd : FuncData} (F : Fun K "read_digit" "read_digit" sReadDigit f fd) (tL : mg "len" = none) (X : XpT K mg "NoLocker" CN N) (cD : Cn mg "DIGIT_ZERO" (.int 48)) :
    FnOk P w K mg base (CXf P w) 1 f fd ["word", "most"] (spReadDigit K CN) := by
  obtain ⟨uD, mD, rD⟩ := cD
  refine F.okx scReadDigit (fun vs H Q E h => (by obtain ⟨ap, part, most, rfl, _⟩ := h; rfl)) (fun cdv A outer s H vs Q E hr h => ?_)
  obtain ⟨ap, part, most, rfl, hP, hl, k1, k2⟩ := h
  refine ⟨_, pss_cons (ps_if (PW.pt (pw_or (pt_cmpR op_ne (pe_callB call_len_seq (by rfl) tL PySem.boot_len (pa_cons (pv 0) pa_nil)) pe_int (nomark _))
      (pw_or (pt_cmpR op_lt (pe_ix ix_list (pv 0) pe_int (fun _ _ => rfl)) (pe_op op_add (pe_glob (by rfl) mD rD) pe_int) (nomark _)) (pw_or1 (pt_cmpR op_gt (pe_ix ix_list (pv 0) pe_int (fun _ _ => rfl)) (pe_op op_add (pe_glob (by rfl) mD rD) (pv 1)) (nomark _))))))
      (pss_one (ps_raise hr.hd X.c (pe_mkx0 X.c X.ini X.keep rfl X.mC))) pss_nil) (pss_one (ps_ret (pe_op op_sub (pe_ix ix_list (pv 0) pe_int (fun _ _ => rfl)) (pe_glob (by rfl) mD rD)))), ?_⟩
  refine ⟨_, rfl, ap, _, rfl, .inl hP, rfl, _, rfl, ite2 (fun hc => ?_) (fun hc => ?_)⟩
  · have e : digitI part most = none := by
      unfold digitI
      split
      · rename_i d
        exact absurd hc (by simp [iv])
      · rfl
    exact raise0 (k2 e)
  · obtain ⟨d, rfl⟩ : ∃ d, part = [d] := by
      match part with
      | [d] => exact ⟨d, rfl⟩
      | [] => exact absurd (by simp [iv]) hc
      | a :: b :: r =>
        exfalso
        apply hc
        simp only [iv, List.length_map, List.length_cons, Bool.not_eq_true', decide_eq_false_iff_not]
        intro q
        injection q with q
        omega
    have e0 : digitI [d] most = if d < 49 ∨ d > 48 + most then none else some (d - 48) := rfl
    refine ⟨_, rfl, ap, _, 0, V.int d, rfl, rfl, hP, rfl, _, _, rfl, rfl, _, _, rfl, rfl, _, rfl, ite2 (fun h1 => ?_) (fun h1 => ?_)⟩
    · have h1 : d < 49 := by simpa using h1
      exact raise0 (k2 (by rw [e0, if_pos (Or.inl h1)]))
    · have h1 : ¬ d < 49 := by simpa using h1
      refine ⟨_, rfl, ap, _, 0, V.int d, rfl, rfl, hP, rfl, _, rfl, _, _, rfl, rfl, _, _, rfl, rfl, _, rfl, ite2 (fun h2 => ?_) (fun h2 => ?_)⟩
      · have h2 : d > 48 + most := by simpa using h2
        exact raise0 (k2 (by rw [e0, if_pos (Or.inr h2)]))
      · have h2 : ¬ d > 48 + most := by simpa using h2
        refine ⟨_, rfl, ap, _, 0, V.int d, rfl, rfl, hP, rfl, _, _, rfl, rfl, ?_⟩
        exact k1 _ (by rw [e0, if_neg (fun z => z.elim h1 h2)]) H (Same.refl H)
end
end HD
end
section
set_option Elab.async false
set_option linter.all false
set_option maxRecDepth 100000
set_option maxHeartbeats 2000000
namespace HD
open PySem PySem.Spec PyProof.Rows L2
open PySem.W (Codec)
theorem mk_step {C : Addr} {ns : List Str} {as : List V} {H1 : Hp} {Q : VK} {E : XK} (hl : as.length = ns.length) (h : ∀ x dx H', H1 x = none → H1 dx = none → dx ≠ x → H' x = some (.ins C dx (ns.zip as)) → Same H1 H' → Q (.ref x) H') :
    ∀ x dx, H1 x = none → H1 dx = none → dx ≠ x → spMk C ns (.ref x :: (as ++ [])) (upd (upd H1 dx (.own x)) x (.ins C dx [])) (fun v H2 => v = .non ∧ Q (.ref x) H2) E := fun x dx hx hd hne =>
  ⟨x, dx, as, by rw [List.append_nil], hl, upd_same, fun H' e1 e2 => ⟨rfl, h x dx H' hx hd hne e1 fun b o eb => e2 b o (by rw [upd_ne (ne_of_none eb hx), upd_ne (ne_of_none eb hd)]; exact eb) (ne_of_none eb hx)⟩⟩
theorem Pts.at {H : Hp} {qs : List Addr} {L : List (List Int)} (h : Pts H qs L) {j : Nat} (hj : j < L.length) : ∃ q, q ∈ qs ∧ (qs.map V.ref)[j]? = some (.ref q) ∧ H q = some (.lst (iv (L.getD j []))) := by
  induction h generalizing j with
  | nil => exact absurd hj (by simp)
  | cons r t ih =>
    cases j with
    | zero => exact ⟨_, by simp, rfl, r⟩
    | succ j =>
      obtain ⟨q, a, b, c⟩ := ih (j := j) (by simpa using hj)
      exact ⟨q, List.mem_cons_of_mem _ a, b, c⟩
theorem atI_neg {α : Type} {xs : List α} {k : Nat} {v : α} (hk : 0 < k) (h : xs[xs.length - k]? = some v) (hl : k ≤ xs.length) : atI xs (-(k : Int)) = some v := by
  have e : ixN xs.length (-(k : Int)) = some (xs.length - k) := by
    unfold ixN
    rw [if_neg (by omega), if_pos (by omega)]
    congr 1
    omega
  unfold atI
  rw [e]
  exact h
def rolesW : List Str := ["sign", "same", "answer"]
def shapesW : List Str := ["square", "tails", "long"]
def nmI (r : Nat) (w : List Int) : Option (List Int) := if r = 0 then (if isNameI w = true then some w else none) else some []
def whI (r : Nat) (w : List Int) : Option Int := if r = 1 then digitI w 4 else some 0
def kind5 (r : Nat) : Option (List Int) → Option Int → Option Int → Option Nat → Option (List Int) → Option KdM
  | some n, some h, some c, some s, some l => some ⟨r, n, h, c, s, l⟩
  | _, _, _, _, _ => none
def kindW (ws : List (List Int)) : Option KdM := match amongI (rolesW.map codes) (ws.getD 0 []) with
  | none => none
  | some r => if ws.length = (if r = 2 then 4 else 5) then kind5 r (nmI r (ws.getD 1 [])) (whI r (ws.getD 1 [])) (digitI (ws.getD (ws.length - 3) []) 8) (amongI (shapesW.map codes) (ws.getD (ws.length - 2) [])) (coloursI (ws.getD (ws.length - 1) [])) else none
def kindI (line : List Int) : Option KdM := kindW (JM.cutI 32 line)
theorem kind5_1 {r : Nat} {b c d e} : kind5 r none b c d e = none := by cases b <;> cases c <;> cases d <;> cases e <;> rfl
theorem kind5_2 {r : Nat} {a c d e} : kind5 r a none c d e = none := by cases a <;> cases c <;> cases d <;> cases e <;> rfl
theorem kind5_3 {r : Nat} {a b d e} : kind5 r a b none d e = none := by cases a <;> cases b <;> cases d <;> cases e <;> rfl
theorem kind5_4 {r : Nat} {a b c e} : kind5 r a b c none e = none := by cases a <;> cases b <;> cases c <;> cases e <;> rfl
theorem kind5_5 {r : Nat} {a b c d} : kind5 r a b c d none = none := by cases a <;> cases b <;> cases c <;> cases d <;> rfl
theorem among_lt {words : List (List Int)} {part : List Int} {r : Nat} (h : amongI words part = some r) : r < words.length := by
  unfold amongI at h
  obtain ⟨h1, _⟩ := List.findIdx?_eq_some_iff_getElem.mp h
  exact h1
def spReadKind (K : PySem.W.Frag) (CK CN : Addr) : Sp := fun vs H Q E => ∃ (ap : Addr) (line : List Int), vs = [.ref ap] ∧ SqL K H ap (iv line) ∧ line.length ≤ 100000 ∧
  (∀ m, kindI line = some m → ∀ H' k, Same H H' → k.m = m → LiesL H' (kdN CK k) → (∀ x ∈ kdN CK k, H x.1 = none) → Q (.ref k.a) H') ∧ (kindI line = none → No E CN H)
section
variable {P : Program} {w : World} {K : PySem.W.Frag} {mg : Str → Option Value} {base : Heap} {CK CN N : Addr}
theorem scReadKind : FnScope ["line", "words", "role", "name", "which", "copies", "shape", "look"] ["line"] (defScope sReadKind) := ⟨rfl, rfl, rfl, by decide +kernel, rfl, by decide +kernel, by decide +kernel⟩
/-- name = read_name(words[1]) if role == SIGN else [] -/
theorem nm_step {K : PySem.W.Frag} {CN : Addr} {E : XK} {σ : L2.St} {H : Hp} {Q : VK} {p : Addr} {xs : List V} {r : Nat} {q1 : Addr} {w1 : List Int} (h2 : σ[2]? = some (some (.int (r : Nat)))) (h1 : σ[1]? = some (some (.ref p))) (hp : SqL K H p xs) (hx : xs[1]? = some (.ref q1)) (hq : H q1 = some (.lst (iv w1))) (hw : w1.length ≤ 100000)
    (no : nmI r w1 = none → No E CN H) (yes : ∀ n, nmI r w1 = some n → ∀ Hn a, Same H Hn → Hn a = some (.lst (iv n)) → (a = q1 ∨ H a = none) → Q (.ref a) Hn) :
    tIf (tTest (tOp rEq (tVar 2) (tC (.int 0)))) (tCall (spReadName K CN) [] E (tCons (tOp (rIxL K) (tVar 1) (tC (.int 1))) tNil)) (tLst tNil) σ H Q := by
  refine ⟨_, h2, rfl, _, rfl, ite2 (fun hc => ?_) (fun hc => ?_)⟩
  · have e : r = 0 := by
      have : V.int (r : Nat) = V.int 0 := by simpa using hc
      injection this with this
      omega
    unfold nmI at no yes
    rw [if_pos e] at no
    refine ⟨_, h1, p, xs, 1, .ref q1, rfl, rfl, hp, atI_nat (j := 1) hx, q1, w1, rfl, SqL.of hq, hw, fun hn H' s' => ?_, fun hn => no (by rw [hn]; rfl)⟩
    refine yes w1 ?_ H' q1 s' (s' _ _ hq) (.inl rfl)
    rw [if_pos e, if_pos hn]
  · have e : ¬ r = 0 := by
      intro z
      apply hc
      rw [z]
      simp
    refine ⟨Nat.zero_le _, fun x hx => ?_⟩
    exact yes [] (by unfold nmI; rw [if_neg e]) _ x (same_upd hx) upd_same (.inr hx)
/-- which = read_digit(words[1], MOST_SAME) if role == SAME else 0 -/
theorem wh_step {K : PySem.W.Frag} {CN : Addr} {E : XK} {σ : L2.St} {H : Hp} {Q : VK} {p : Addr} {xs : List V} {r : Nat} {q1 : Addr} {w1 : List Int} (h2 : σ[2]? = some (some (.int (r : Nat)))) (h1 : σ[1]? = some (some (.ref p))) (hp : SqL K H p xs) (hx : xs[1]? = some (.ref q1)) (hq : H q1 = some (.lst (iv w1))) (hw : w1.length ≤ 100000)
    (no : whI r w1 = none → No E CN H) (yes : ∀ n, whI r w1 = some n → ∀ Hn, Same H Hn → Q (.int n) Hn) :
    tIf (tTest (tOp rEq (tVar 2) (tC (.int 1)))) (tCall (spReadDigit K CN) [] E (tCons (tOp (rIxL K) (tVar 1) (tC (.int 1))) (tCons (tC (.int 4)) tNil))) (tC (.int 0)) σ H Q := by
  refine ⟨_, h2, rfl, _, rfl, ite2 (fun hc => ?_) (fun hc => ?_)⟩
  · have e : r = 1 := by
      have : V.int (r : Nat) = V.int 1 := by simpa using hc
      injection this with this
      omega
    unfold whI at no yes
    rw [if_pos e] at no yes
    exact ⟨_, h1, p, xs, 1, .ref q1, rfl, rfl, hp, atI_nat (j := 1) hx, q1, w1, 4, rfl, SqL.of hq, hw, fun d hd H' s' => yes d hd H' s', fun hn => no hn⟩
  · have e : ¬ r = 1 := by
      intro z
      apply hc
      rw [z]
      simp
    exact yes 0 (by unfold whI; rw [if_neg e]) H (Same.refl H)
theorem ok_readKind {f : Addr} {fd : FuncData} (F : Fun K "read_kind" "read_kind" sReadKind f fd) (tL : mg "len" = none) (X : XpT K mg "NoLocker" CN N) (cB : Cn mg "BLANK" (.int 32)) (cR : Tn K mg "ROLES" (rolesW.map V.str)) (cW : Tn K mg "WORDS_OF_ROLES" [.int 5, .int 5, .int 4])
    (cS : Cn mg "SIGN" (.int 0)) (cSa : Cn mg "SAME" (.int 1)) (cMS : Cn mg "MOST_SAME" (.int 4)) (cMC : Cn mg "MOST_COPIES" (.int 8)) (cSh : Tn K mg "SHAPES" (shapesW.map V.str))
    (dC : Dn P w K mg base CX0 1 "cut" ["text", "mark"] (spCut K)) (dA : Dn P w K mg base CX0 2 "place_among" ["words", "part"] (spAmong K)) (dN : Dn P w K mg base (CXf P w) 4 "read_name" ["word"] (spReadName K CN)) (dD : Dn P w K mg base (CXf P w) 1 "read_digit" ["word", "most"] (spReadDigit K CN))
    (dR : Dn P w K mg base CX0 3 "read_colours" ["part"] (spColours K)) (dK : MkD P w K mg base "Kind" CK ["role", "name", "which", "copies", "shape", "look"]) : FnOk P w K mg base (CXf P w) 5 f fd ["line"] (spReadKind K CK CN) := by
  obtain ⟨uB, mB, rB⟩ := cB
  obtain ⟨aR, mR, hR⟩ := cR
  obtain ⟨aW, mW, hW⟩ := cW
  obtain ⟨uS, mS, rS⟩ := cS
  obtain ⟨uSa, mSa, rSa⟩ := cSa
  obtain ⟨uMS, mMS, rMS⟩ := cMS
  obtain ⟨uMC, mMC, rMC⟩ := cMC
  obtain ⟨aSh, mSh, hSh⟩ := cSh
  obtain ⟨fC, fdC, GC, mC, kC, bC⟩ := dC
  obtain ⟨fA, fdA, GA, mA, kA, bA⟩ := dA
  obtain ⟨fN, fdN, GN, mN, kN, bN⟩ := dN
  obtain ⟨fD, fdD, GD, mD, kD, bD⟩ := dD
  obtain ⟨fR, fdR, GR, mRc, kR, bR⟩ := dR
  obtain ⟨fK, fdK, MK, GK, mK, bK⟩ := dK
  refine F.okx scReadKind (fun vs H Q E h => (by obtain ⟨ap, part, rfl, _⟩ := h; rfl)) (fun cdv A outer s H vs Q E hr h => ?_)
  obtain ⟨ap, line, rfl, hP, hl, k1, k2⟩ := h
  have hr1 : Room 1 _ := hr.mono (by decide)
  have hr2 : Room 2 _ := hr.mono (by decide)
  have hr3 : Room 3 _ := hr.mono (by decide)
  refine ⟨_, pss_cons (ps_set (i := 1) scReadKind.nd rfl (Or.inl rfl) (pe_call GC hr1 rfl mC kC bC .nil pass0 (pa_cons (pv 0) (pa_cons (pe_glob (by rfl) mB rB) pa_nil))))
    (pss_cons (ps_set (i := 2) scReadKind.nd rfl (Or.inl rfl) (pe_call GA hr2 rfl mA kA bA .nil pass0 (pa_cons (pe_glob (v := .ref aR) (by rfl) mR rfl) (pa_cons (pe_ix ix_list (pv 1) pe_int (fun _ _ => rfl)) pa_nil))))
    (pss_cons (ps_if (PW.pt (pw_or (pt_cmp (pc_isN (pv 2))) (pw_or1 (pt_cmpR op_ne (pe_callB call_len_seq (by rfl) tL PySem.boot_len (pa_cons (pv 1) pa_nil)) (pe_ix ix_tup (pe_glob (v := .ref aW) (by rfl) mW rfl) (pv 2) (fun _ _ => rfl)) (nomark _)))))
      (pss_one (ps_raise hr.hd X.c (pe_mkx0 X.c X.ini X.keep rfl X.mC))) pss_nil)
    (pss_cons (ps_set (i := 3) scReadKind.nd rfl (Or.inl rfl) (pe_ifExp (pt_cmpR op_eq (pv 2) (pe_glob (by rfl) mS rS) (nomark _)) (pe_call GN hr rfl mN kN bN .nil passes_fly (pa_cons (pe_ix ix_list (pv 1) pe_int (fun _ _ => rfl)) pa_nil)) (pe_lst pa_nil)))
    (pss_cons (ps_set (i := 4) scReadKind.nd rfl (Or.inl rfl) (pe_ifExp (pt_cmpR op_eq (pv 2) (pe_glob (by rfl) mSa rSa) (nomark _)) (pe_call GD hr1 rfl mD kD bD .nil passes_fly (pa_cons (pe_ix ix_list (pv 1) pe_int (fun _ _ => rfl)) (pa_cons (pe_glob (by rfl) mMS rMS) pa_nil))) pe_int))
    (pss_cons (ps_set (i := 5) scReadKind.nd rfl (Or.inl rfl) (pe_call GD hr1 rfl mD kD bD .nil passes_fly (pa_cons (pe_ix ix_list (pv 1) (pe_un un_neg pe_int) (fun _ _ => rfl)) (pa_cons (pe_glob (by rfl) mMC rMC) pa_nil))))
    (pss_cons (ps_set (i := 6) scReadKind.nd rfl (Or.inl rfl) (pe_call GA hr2 rfl mA kA bA .nil pass0 (pa_cons (pe_glob (v := .ref aSh) (by rfl) mSh rfl) (pa_cons (pe_ix ix_list (pv 1) (pe_un un_neg pe_int) (fun _ _ => rfl)) pa_nil))))
    (pss_cons (ps_set (i := 7) scReadKind.nd rfl (Or.inl rfl) (pe_call GR hr3 rfl mRc kR bR .nil pass0 (pa_cons (pe_ix ix_list (pv 1) (pe_un un_neg pe_int) (fun _ _ => rfl)) pa_nil)))
    (pss_cons (ps_if (PW.pt (pw_or (pt_cmp (pc_isN (pv 6))) (pw_or1 (pt_cmp (pc_isN (pv 7)))))) (pss_one (ps_raise hr.hd X.c (pe_mkx0 X.c X.ini X.keep rfl X.mC))) pss_nil)
    (pss_one (ps_ret (pe_make MK GK hr2 rfl mK bK .nil pass0 (pa_cons (pv 2) (pa_cons (pv 3) (pa_cons (pv 4) (pa_cons (pv 5) (pa_cons (pv 6) (pa_cons (pv 7) pa_nil))))))))))))))))), ?_⟩
  refine ⟨_, rfl, ap, 32, line, rfl, hP, hl, fun H1 p qs hN hp nd np hf => ?_⟩
  have s1 := hN.1
  have hws : ∀ w ∈ JM.cutI 32 line, w.length ≤ 100000 := fun w hw => Nat.le_trans (cut_part 32 line w hw) hl
  have ek : kindI line = kindW (JM.cutI 32 line) := rfl
  have hne := JM.cutI_ne 32 line
  generalize JM.cutI 32 line = ws at hp hws ek hne
  have hlen : (qs.map V.ref).length = ws.length := by rw [List.length_map, hp.len]
  have hwd : ∀ j, (ws.getD j []).length ≤ 100000 := fun j => by
    by_cases hj : j < ws.length
    · rw [List.getD_eq_getElem?_getD, List.getElem?_eq_getElem hj]
      exact hws _ (List.getElem_mem hj)
    · rw [List.getD_eq_getElem?_getD, List.getElem?_eq_none (by omega)]
      exact Nat.zero_le _
  obtain ⟨q0, hq0, hx0, hh0⟩ := hp.at (j := 0) (by cases ws with | nil => exact absurd rfl hne | cons a b => simp)
  refine ⟨_, rfl, p, _, 0, _, rfl, rfl, SqL.of hN.2.2, atI_nat (j := 0) hx0, aR, q0, rolesW, ws.getD 0 [], rfl, hR H1, by decide, SqL.of hh0, fun H2 s2 => ?_⟩
  have s12 := s1.trans s2
  refine ⟨_, rfl, _, rfl, ite2 (fun hc => ?_) (fun hc => ?_)⟩
  · have hc : oI (amongI (rolesW.map codes) (ws.getD 0 [])) = V.non := by simpa using hc
    have e : kindI line = none := by
      rw [ek]
      unfold kindW
      cases z : amongI (rolesW.map codes) (ws.getD 0 []) with
      | none => rfl
      | some i => rw [z] at hc; cases hc
    exact raise0 ((k2 e).go s12)
  · have hc : ¬ oI (amongI (rolesW.map codes) (ws.getD 0 [])) = V.non := by simpa using hc
    obtain ⟨r, er⟩ : ∃ r, amongI (rolesW.map codes) (ws.getD 0 []) = some r := by
      cases z : amongI (rolesW.map codes) (ws.getD 0 []) with
      | none => rw [z] at hc; exact absurd rfl hc
      | some i => exact ⟨i, rfl⟩
    have hr3' : r < 3 := among_lt er
    rw [er]
    have ek2 : kindI line = if ws.length = (if r = 2 then 4 else 5) then kind5 r (nmI r (ws.getD 1 [])) (whI r (ws.getD 1 [])) (digitI (ws.getD (ws.length - 3) []) 8) (amongI (shapesW.map codes) (ws.getD (ws.length - 2) [])) (coloursI (ws.getD (ws.length - 1) [])) else none := by
      rw [ek]
      unfold kindW
      rw [er]
    have eat : atI [V.int 5, V.int 5, V.int 4] (r : Int) = some (.int ((if r = 2 then 4 else 5 : Nat) : Int)) := by
      match r, hr3' with
      | 0, _ => rfl
      | 1, _ => rfl
      | 2, _ => rfl
    refine ⟨_, rfl, p, _, rfl, .inl (SqL.of (s2 _ _ hN.2.2)), _, rfl, aW, _, (r : Int), _, rfl, rfl, hW H2, eat, rfl, _, rfl, ite2 (fun hd => ?_) (fun hd => ?_)⟩
    · have hd : ¬ ws.length = (if r = 2 then 4 else 5) := by
        intro z
        rw [hlen, z] at hd
        simp at hd
      exact raise0 ((k2 (by rw [ek2, if_neg hd])).go s12)
    · have hd : ws.length = (if r = 2 then 4 else 5) := by
        by_cases z : ws.length = (if r = 2 then 4 else 5)
        · exact z
        · exfalso
          apply hd
          rw [hlen]
          simp only [Bool.not_eq_true', decide_eq_false_iff_not]
          intro q
          injection q with q
          omega
      rw [if_pos hd] at ek2
      have h4 : 4 ≤ ws.length := by rw [hd]; split <;> decide
      have hp2 := hp.same s2
      have hL2 := s2 _ _ hN.2.2
      obtain ⟨q1, hq1, hx1, hh1⟩ := hp2.at (j := 1) (by omega)
      obtain ⟨q5, hq5, hx5, hh5⟩ := hp2.at (j := ws.length - 3) (by omega)
      obtain ⟨q6, hq6, hx6, hh6⟩ := hp2.at (j := ws.length - 2) (by omega)
      obtain ⟨q7, hq7, hx7, hh7⟩ := hp2.at (j := ws.length - 1) (by omega)
      refine nm_step (r := r) (w1 := ws.getD 1 []) rfl rfl (SqL.of hL2) hx1 hh1 (hwd 1) (fun z => (k2 (by rw [ek2, z, kind5_1])).go s12) fun nm enm H3 an s3 hn3 han => ?_
      refine wh_step (r := r) (w1 := ws.getD 1 []) rfl rfl (SqL.of (s3 _ _ hL2)) hx1 (s3 _ _ hh1) (hwd 1) (fun z => (k2 (by rw [ek2, z, kind5_2])).go (s12.trans s3)) fun wh ewh H4 s4 => ?_
      have s14 := (s12.trans s3).trans s4
      have s24 := s3.trans s4
      refine ⟨_, rfl, _, rfl, p, _, _, _, rfl, rfl, SqL.of (s24 _ _ hL2), atI_neg (k := 3) (by decide) (by rw [hlen]; exact hx5) (by rw [hlen]; omega), q5, ws.getD (ws.length - 3) [], 8, rfl, SqL.of (s24 _ _ hh5), hwd _, fun cp ecp H5 s5 => ?_, fun z => (k2 (by rw [ek2, z, kind5_3])).go s14⟩
      have s15 := s14.trans s5
      have s25 := s24.trans s5
      refine ⟨_, rfl, _, rfl, p, _, _, _, rfl, rfl, SqL.of (s25 _ _ hL2), atI_neg (k := 2) (by decide) (by rw [hlen]; exact hx6) (by rw [hlen]; omega), aSh, q6, shapesW, ws.getD (ws.length - 2) [], rfl, hSh H5, by decide, SqL.of (s25 _ _ hh6), fun H6 s6 => ?_⟩
      have s16 := s15.trans s6
      have s26 := s25.trans s6
      refine ⟨_, rfl, _, rfl, p, _, _, _, rfl, rfl, SqL.of (s26 _ _ hL2), atI_neg (k := 1) (by decide) (by rw [hlen]; exact hx7) (by rw [hlen]; omega), q7, ws.getD (ws.length - 1) [], rfl, SqL.of (s26 _ _ hh7), hwd _, fun z H7 s7 => ?_, fun lk elk H7 al hN7 => ?_⟩
      · have no := (k2 (by rw [ek2, z, kind5_5])).go (s16.trans s7)
        exact ⟨_, rfl, _, rfl, ite2 (fun _ => raise0 no) (fun _ => ⟨_, rfl, _, rfl, iteT (raise0 no)⟩)⟩
      · have s7 := hN7.1
        refine ⟨_, rfl, _, rfl, ite2 (fun hs => ?_) (fun hs => ⟨_, rfl, _, rfl, iteF ?_⟩)⟩
        · have hs : oI (amongI (shapesW.map codes) (ws.getD (ws.length - 2) [])) = V.non := by simpa using hs
          have z : amongI (shapesW.map codes) (ws.getD (ws.length - 2) []) = none := by
            cases z : amongI (shapesW.map codes) (ws.getD (ws.length - 2) []) with
            | none => rfl
            | some i => rw [z] at hs; cases hs
          exact raise0 ((k2 (by rw [ek2, z, kind5_4])).go (s16.trans s7))
        · have hs : ¬ oI (amongI (shapesW.map codes) (ws.getD (ws.length - 2) [])) = V.non := by simpa using hs
          obtain ⟨sh, esh⟩ : ∃ i, amongI (shapesW.map codes) (ws.getD (ws.length - 2) []) = some i := by
            cases z : amongI (shapesW.map codes) (ws.getD (ws.length - 2) []) with
            | none => rw [z] at hs; exact absurd rfl hs
            | some i => exact ⟨i, rfl⟩
          rw [esh]
          refine ⟨_, rfl, _, rfl, _, rfl, _, rfl, _, rfl, _, rfl, mk_step rfl fun x dx H8 hx hdx hne e8 s8 => ?_⟩
          have s17 := s16.trans s7
          have hem : kindI line = some ⟨r, nm, wh, cp, sh, lk⟩ := by rw [ek2, enm, ewh, ecp, esh, elk]; rfl
          refine k1 _ hem H8 ⟨x, dx, an, al, ⟨r, nm, wh, cp, sh, lk⟩⟩ (s17.trans s8) rfl (fun y hy => ?_) fun y hy => ?_
          · simp only [kdN, List.mem_cons, List.not_mem_nil, or_false] at hy
            rcases hy with rfl | rfl | rfl
            · exact e8
            · exact s8 _ _ (s7 _ _ (s6 _ _ (s5 _ _ (s4 _ _ hn3))))
            · exact s8 _ _ hN7.2.2
          · simp only [kdN, List.mem_cons, List.not_mem_nil, or_false] at hy
            rcases hy with rfl | rfl | rfl
            · exact s17.free hx
            · rcases han with rfl | z
              · exact hf _ hq1
              · exact s12.free z
            · exact s16.free hN7.2.1
end
end HD
end
section
set_option Elab.async false
set_option linter.all false
set_option maxRecDepth 100000
set_option maxHeartbeats 2000000
namespace HD
open PySem PySem.Spec PyProof.Rows L2
open PySem.W (Codec)
mutual
theorem dp_same {K : PySem.W.Frag} {H H' : Hp} (s : Same H H') : ∀ {v : V} {d : PyData}, Dp K H v d → Dp K H' v d
  | _, _, .non => .non
  | _, _, .bl b => .bl b
  | _, _, .int i => .int i
  | _, _, .str x => .str x
  | _, _, .lst h r => .lst (s.seq h) (dpAll_same s r)
  | _, _, .tup h r => .tup (Same.tup s h) (dpAll_same s r)
theorem dpAll_same {K : PySem.W.Frag} {H H' : Hp} (s : Same H H') : ∀ {vs : List V} {ds : List PyData}, DpAll K H vs ds → DpAll K H' vs ds
  | _, _, .nil => .nil
  | _, _, .cons h r => .cons (dp_same s h) (dpAll_same s r)
end
theorem dpAll_take {K : PySem.W.Frag} {H : Hp} : ∀ {vs : List V} {ds : List PyData} (n : Nat), DpAll K H vs ds → DpAll K H (vs.take n) (ds.take n)
  | _, _, 0, _ => by simpa using DpAll.nil
  | _, _, n + 1, .nil => by simpa using DpAll.nil
  | _, _, n + 1, .cons h r => by
    rw [List.take_succ_cons, List.take_succ_cons]
    exact .cons h (dpAll_take n r)
theorem dpAll_at {K : PySem.W.Frag} {H : Hp} : ∀ {vs : List V} {ds : List PyData} {i : Nat} {v : V}, DpAll K H vs ds → vs[i]? = some v → ∃ d, ds[i]? = some d ∧ Dp K H v d
  | _, _, _, _, .nil, h => by simp at h
  | _, _, 0, _, .cons h r, e => by
    have := Option.some.inj e
    subst this
    exact ⟨_, rfl, h⟩
  | _, _, i + 1, _, .cons h r, e => dpAll_at (i := i) r e
theorem cutV_take (xs : List V) {i : Nat} (h : i ≤ xs.length) : cutV xs none (some (i : Int)) = xs.take i := by
  unfold cutV
  rw [HT.sIx_none, HT.sIx_nat, List.drop_zero, Nat.sub_zero, Nat.min_eq_left h]
theorem cutV_drop (xs : List V) {i : Nat} (h : i ≤ xs.length) : cutV xs (some (i : Int)) none = xs.drop i := by
  unfold cutV
  rw [HT.sIx_none, HT.sIx_nat, Nat.min_eq_left h]
  exact List.take_of_length_le (by rw [List.length_drop]; exact Nat.le_refl _)
theorem fill_map {α : Type} {ys : List V} {L : List α} {g : α → V} (hl : ys.length = L.length) (h : ∀ (i : Nat) (y : V) (x : α), ys[i]? = some y → L[i]? = some x → y = g x) : ys = L.map g := by
  apply List.ext_getElem?
  intro i
  rw [List.getElem?_map]
  by_cases hi : i < L.length
  · have h1 : ys[i]? = some ys[i] := List.getElem?_eq_getElem (by omega)
    have h2 : L[i]? = some L[i] := List.getElem?_eq_getElem hi
    rw [h1, h2, h i _ _ h1 h2]
    rfl
  · rw [List.getElem?_eq_none (by omega), List.getElem?_eq_none (by omega)]
    rfl
theorem range_at {n i : Nat} {x : Nat} (h : (List.range n)[i]? = some x) : x = i := by
  obtain ⟨h1, h2⟩ := List.getElem?_eq_some_iff.mp h
  rw [List.getElem_range] at h2
  exact h2.symm
/-! ### has_twice -/
def twAt (ds : List PyData) (i : Nat) : Bool := (ds.take i).any fun d => PyData.eqv d (ds.getD i .none)
def twiceI (ds : List PyData) : Bool := (List.range ds.length).any (twAt ds)
def spTwice (K : PySem.W.Frag) : Sp := fun vs H Q _ => ∃ (p : Addr) (xs : List V) (ds : List PyData), vs = [.ref p] ∧ SqL K H p xs ∧ DpAll K H xs ds ∧ (∀ d ∈ ds, SeqAt.shaped d = true) ∧ xs.length ≤ 100000 ∧ ∀ H', Same H H' → Q (.bl (twiceI ds)) H'
section
variable {P : Program} {w : World} {K : PySem.W.Frag} {mg : Str → Option Value} {base : Heap} {CK CN N : Addr}
theorem scTwice : FnScope ["things", "place", "thing"] ["things"] (defScope sHasTwice) := ⟨rfl, rfl, rfl, by decide +kernel, rfl, by decide +kernel, by decide +kernel⟩
theorem ok_twice {f : Addr} {fd : FuncData} (F : Fun K "has_twice" "has_twice" sHasTwice f fd) (tA : mg "any" = none) (tE : mg "enumerate" = none) : FnOk P w K mg base CX0 1 f fd ["things"] (spTwice K) := by
  refine F.ok scTwice (fun vs H Q E h => (by obtain ⟨p, xs, ds, rfl, _⟩ := h; rfl)) (fun cdv A outer s H vs Q E hr h => ?_)
  obtain ⟨p, xs, ds, rfl, hp, hd, hsh, hl, k⟩ := h
  have hu : A.units + 3 + 128 < cLine := by have := hr.un; exact Nat.lt_of_le_of_lt (by show A.units + 3 + 128 ≤ A.units + 3 + 16 * 0 + 200; omega) this
  refine ⟨_, pss_one (ps_ret (pe_callB (cr_any rfl) (by rfl) tA boot_any (pa_cons (pe_lc (own := [("place", 1), ("thing", 2)]) (g := gTup K 2 (gCons (gName 1) (gCons (gName 2) gNil))) (te := tOp (rInD K) (tVar 2) (tSl (rSlL K) (tVar 0) tNoPart (tPart (tVar 1)))) rfl scTwice.nd (pi_enum (by rfl) tE (pa_cons (pv 0) pa_nil)) (blkOk_by (N := ["things", "place", "thing"]) (sc := defScope sHasTwice) (by decide +kernel))
    (fun _ _ _ _ _ => pg_tup rfl (pgs_cons (pg_name (i := 1) scTwice.nd rfl (Or.inl rfl) (hf := Or.inr rfl)) (pgs_cons (pg_name (i := 2) scTwice.nd rfl (Or.inl rfl) (hf := Or.inr rfl)) pgs_nil))) (fun _ _ _ _ _ => pts_nil)
    (fun _ _ _ _ _ => pe_cmpR (op_inD hu) (pv 2) (pe_slice sl_list (pv 0) po_none (po_some (pv 1))) (by with_unfolding_all rfl))) pa_nil))), ?_⟩
  refine ⟨_, rfl, p, xs, rfl, hp, fun D hD => lc_enum (K := K) (a := p) (xs := xs) (FInv H D fun i y ns => ns = [] ∧ y = .bl (twAt ds i)) (FInv.zero hD) (fun i H' _ f => f.same.seq hp) (fun i x T H' hi f hT => ?_) (fun H' f => ?_)⟩
  · have hil := (List.getElem?_eq_some_iff.mp hi).1
    refine ⟨T, _, rfl, SqT.of upd_same, rfl, _, _, rfl, _, _, rfl, rfl, rfl, yes_if ?_⟩
    have s1 : Same H' (upd H' T (.tup [.int (i : Nat), x])) := same_upd hT
    have s2 := f.same.trans s1
    refine ⟨_, rfl, _, rfl, _, rfl, _, rfl, p, xs, rfl, s2.seq hp, fun c hc => ?_⟩
    have s3 := same_upd (o := .lst (cutV xs none (some (i : Int)))) hc
    obtain ⟨d, hd1, hd2⟩ := dpAll_at hd hi
    refine ⟨c, _, ds.take i, d, rfl, SqL.of upd_same, ?_, dp_same (s2.trans s3) hd2, fun d hd => hsh d (List.mem_of_mem_take hd), hsh d (List.mem_of_getElem? hd1), ?_⟩
    · have z := dpAll_same (s2.trans s3) (dpAll_take i hd)
      rw [cutV_take xs (by omega)] at z ⊢
      exact z
    · refine f.step hD (by omega) (s1.trans s3) ⟨rfl, ?_⟩ LiesL.nil (by simp)
      unfold twAt
      rw [List.getD_eq_getElem?_getD, hd1]
      rfl
  · obtain ⟨ys, s1, hd1, hl1, fl⟩ := f.end
    have ey : ys = ((List.range ds.length).map (twAt ds)).map V.bl := by
      rw [List.map_map]
      refine fill_map (by rw [hl1, List.length_range, dpAll_len hd]) fun i y x h1 h2 => ?_
      obtain ⟨ns, ⟨_, e⟩, _⟩ := fl i y h1
      rw [e, range_at h2]
      rfl
    refine ⟨D, (List.range ds.length).map (twAt ds), rfl, ?_, ?_⟩
    · rw [← ey]
      exact SqL.of hd1
    · have q := k H' s1
      unfold twiceI at q
      rw [List.any_map]
      exact q
/-! ### may_follow -/
def followI (a b : KdM) : Bool := if a.role = 0 ∧ b.role = 0 then true else HT.lexLt [(a.role : Nat), a.which] [(b.role : Nat), b.which]
def spFollow (CK : Addr) : Sp := fun vs H Q _ => ∃ a b : KdA, vs = [.ref a.a, .ref b.a] ∧ LiesL H (kdN CK a) ∧ LiesL H (kdN CK b) ∧ ∀ H', Same H H' → Q (.bl (followI a.m b.m)) H'
theorem kd_at {C : Addr} {H : Hp} {k : KdA} (h : LiesL H (kdN C k)) : H k.a = some (.ins C k.dx (kdF k)) := h (k.a, _) (by simp [kdN])
theorem nm_at {C : Addr} {H : Hp} {k : KdA} (h : LiesL H (kdN C k)) : H k.nm = some (.lst (iv k.m.name)) := h (k.nm, _) (by simp [kdN])
theorem lk_at {C : Addr} {H : Hp} {k : KdA} (h : LiesL H (kdN C k)) : H k.lk = some (.lst (iv k.m.look)) := h (k.lk, _) (by simp [kdN])
theorem dec_int (n m : Nat) : decide (V.int (n : Nat) = V.int (m : Nat)) = decide (n = m) := by
  by_cases h : n = m
  · subst h; simp
  · rw [decide_eq_false h, decide_eq_false]
    intro z
    injection z with z
    omega
theorem scFollow : FnScope ["before", "kind"] ["before", "kind"] (defScope sMayFollow) := ⟨rfl, rfl, rfl, by decide +kernel, rfl, by decide +kernel, by decide +kernel⟩
theorem ok_follow {f : Addr} {fd : FuncData} (F : Fun K "may_follow" "may_follow" sMayFollow f fd) (T : KdT K CK) (cS : Cn mg "SIGN" (.int 0)) : FnOk P w K mg base CX0 1 f fd ["before", "kind"] (spFollow CK) := by
  obtain ⟨uS, mS, rS⟩ := cS
  refine F.ok scFollow (fun vs H Q E h => (by obtain ⟨a, b, rfl, _⟩ := h; rfl)) (fun cdv A outer s H vs Q E hr h => ?_)
  obtain ⟨a, b, rfl, ha, hb, k⟩ := h
  refine ⟨_, pss_cons (ps_if (PW.pt (pw_and (pt_cmpR op_eq (pe_fld (pv 0) rfl) (pe_glob (by rfl) mS rS) (nomark _)) (pw_and1 (pt_cmpR op_eq (pe_fld (pv 1) rfl) (pe_glob (by rfl) mS rS) (nomark _))))) (pss_one (ps_ret pe_bl)) pss_nil)
    (pss_one (ps_ret (pe_cmpR (op_ltT hr.units0) (pe_tup (pa_cons (pe_fld (pv 0) rfl) (pa_cons (pe_fld (pv 0) rfl) pa_nil))) (pe_tup (pa_cons (pe_fld (pv 1) rfl) (pa_cons (pe_fld (pv 1) rfl) pa_nil))) (nomark _)))), ?_⟩
  have rest : ¬ (a.m.role = 0 ∧ b.m.role = 0) → tRet (tOp (rLtT K) (tTup (tCons (tFld K (tVar 0) "role") (tCons (tFld K (tVar 0) "which") tNil))) (tTup (tCons (tFld K (tVar 1) "role") (tCons (tFld K (tVar 1) "which") tNil)))) { nx := fun _ H' => Q .non H', rt := Q } [some (.ref a.a), some (.ref b.a)] H := fun hn => by
    refine ⟨_, rfl, a.a, CK, a.dx, _, _, rfl, (kd_at ha), T.c, T.nRole, kdF_role a, _, rfl, a.a, CK, a.dx, _, _, rfl, (kd_at ha), T.c, T.nWhich, kdF_which a, (by show 2 ≤ sizeLine; decide), fun t1 h1 => ?_⟩
    have s1 := same_upd (o := .tup [.int (a.m.role : Nat), .int a.m.which]) h1
    refine ⟨_, rfl, b.a, CK, b.dx, _, _, rfl, s1 _ _ (kd_at hb), T.c, T.nRole, kdF_role b, _, rfl, b.a, CK, b.dx, _, _, rfl, s1 _ _ (kd_at hb), T.c, T.nWhich, kdF_which b, (by show 2 ≤ sizeLine; decide), fun t2 h2 => ?_⟩
    have s2 := same_upd (o := .tup [.int (b.m.role : Nat), .int b.m.which]) h2
    refine ⟨t1, t2, [(a.m.role : Nat), a.m.which], [(b.m.role : Nat), b.m.which], rfl, rfl, SqT.of (s2 _ _ upd_same), SqT.of upd_same, ?_⟩
    have q := k _ (s1.trans s2)
    unfold followI at q
    rw [if_neg hn] at q
    exact q
  refine ⟨_, rfl, a.a, CK, a.dx, _, _, rfl, (kd_at ha), T.c, T.nRole, kdF_role a, rfl, _, rfl, ?_⟩
  rw [show V.int 0 = V.int ((0 : Nat) : Int) from rfl, dec_int]
  refine ite2 (fun h1 => ?_) (fun h1 => ?_)
  · have h1 : a.m.role = 0 := by simpa using h1
    refine ⟨_, rfl, b.a, CK, b.dx, _, _, rfl, (kd_at hb), T.c, T.nRole, kdF_role b, rfl, _, rfl, ?_⟩
    rw [dec_int]
    refine ite2 (fun h2 => ?_) (fun h2 => ?_)
    · have h2 : b.m.role = 0 := by simpa using h2
      have q := k H (Same.refl H)
      unfold followI at q
      rw [if_pos ⟨h1, h2⟩] at q
      exact q
    · have h2 : ¬ b.m.role = 0 := by simpa using h2
      exact rest fun z => h2 z.2
  · have h1 : ¬ a.m.role = 0 := by simpa using h1
    exact rest fun z => h1 z.1
end
end HD
end
section
set_option Elab.async false
set_option linter.all false
set_option maxRecDepth 100000
set_option maxHeartbeats 2000000
namespace HD
open PySem PySem.Spec PyProof.Rows L2
open PySem.W (Codec)
theorem ks_at {C : Addr} {H : Hp} {ks : List KdA} (h : LiesL H (ksN C ks)) {k : KdA} (hk : k ∈ ks) : LiesL H (kdN C k) := fun x hx => h x (List.mem_flatMap.mpr ⟨k, hk, hx⟩)
theorem ks_of {C : Addr} {H : Hp} {ks : List KdA} (h : ∀ k ∈ ks, LiesL H (kdN C k)) : LiesL H (ksN C ks) := fun x hx => by
  obtain ⟨k, hk, hx⟩ := List.mem_flatMap.mp hx
  exact h k hk x hx
theorem getK {l : List KdA} {i : Nat} {y : V} (h : (l.map fun k => V.ref k.a)[i]? = some y) : ∃ z, l[i]? = some z ∧ y = V.ref z.a := by
  rw [List.getElem?_map] at h
  cases e : l[i]? with
  | none => rw [e] at h; cases h
  | some z => rw [e] at h; exact ⟨z, rfl, (Option.some.inj h).symm⟩
/-! ### are_in_order -/
def isSign (m : KdM) : Bool := decide (m.role = 0)
def orderI (ms : List KdM) : Bool := if (ms.filter isSign).length < 1 ∨ (ms.filter isSign).length > 48 then false else (ms.zip (ms.drop 1)).all fun p => followI p.1 p.2
def spKinds (CK : Addr) (b : List KdM → Bool) : Sp := fun vs H Q _ => ∃ (p : Addr) (ks : List KdA), vs = [.ref p] ∧ H p = some (.lst (ks.map fun k => V.ref k.a)) ∧ LiesL H (ksN CK ks) ∧ ks.length ≤ 100000 ∧ ∀ H', Same H H' → Q (.bl (b (ks.map KdA.m))) H'
theorem take_filter {α : Type} {p : α → Bool} {l : List α} {i : Nat} {x : α} (h : l[i]? = some x) : (l.take (i + 1)).filter p = (l.take i).filter p ++ (if p x = true then [x] else []) := by
  rw [take_snoc h, List.filter_append]
  congr 1
  by_cases z : p x = true
  · rw [if_pos z]; simp [z]
  · rw [if_neg z]; simp [z]
section
variable {P : Program} {w : World} {K : PySem.W.Frag} {mg : Str → Option Value} {base : Heap} {CK CL CN N : Addr}
theorem scOrder : FnScope ["kinds", "signs", "kind", "place"] ["kinds"] (defScope sAreInOrder) := ⟨rfl, rfl, rfl, by decide +kernel, rfl, by decide +kernel, by decide +kernel⟩
theorem ok_order {f : Addr} {fd : FuncData} (F : Fun K "are_in_order" "are_in_order" sAreInOrder f fd) (T : KdT K CK) (tL : mg "len" = none) (tA : mg "all" = none) (tE : mg "enumerate" = none) (cS : Cn mg "SIGN" (.int 0)) (cM : Cn mg "MOST_SIGNS" (.int 48))
    (dF : Dn P w K mg base CX0 1 "may_follow" ["before", "kind"] (spFollow CK)) : FnOk P w K mg base CX0 2 f fd ["kinds"] (spKinds CK orderI) := by
  obtain ⟨uS, mS, rS⟩ := cS
  obtain ⟨uM, mM, rM⟩ := cM
  obtain ⟨fF, fdF, GF, mF, kF, bF⟩ := dF
  refine F.ok scOrder (fun vs H Q E h => (by obtain ⟨p, ks, rfl, _⟩ := h; rfl)) (fun cdv A outer s H vs Q E hr h => ?_)
  obtain ⟨p, ks, rfl, hp, hk, hl, k⟩ := h
  refine ⟨_, pss_cons (ps_set (i := 1) scOrder.nd rfl (Or.inl rfl) (pe_callB call_len_seq (by rfl) tL PySem.boot_len (pa_cons (pe_lc (own := [("kind", 2)]) (tt := tTest (tOp rEq (tFld K (tVar 2) "role") (tC (.int 0)))) (te := tVar 2) rfl scOrder.nd (pi_list (pv 0)) (blkOk_by (N := ["kinds", "signs", "kind", "place"]) (sc := defScope sAreInOrder) (by decide +kernel))
      (fun _ _ _ _ _ => pg_name (i := 2) scOrder.nd rfl (Or.inl rfl)) (fun _ _ _ _ _ => pts_one (pt_cmpR op_eq (pe_fld (pv 2) rfl) (pe_glob (by rfl) mS rS) (nomark _))) (fun _ _ _ _ _ => pv 2)) pa_nil)))
    (pss_cons (ps_if (PW.pt (pw_or (pt_cmpR op_lt (pv 1) pe_int (nomark _)) (pw_or1 (pt_cmpR op_gt (pv 1) (pe_glob (by rfl) mM rM) (nomark _))))) (pss_one (ps_ret pe_bl)) pss_nil)
    (pss_one (ps_ret (pe_callB (cr_all rfl) (by rfl) tA boot_all (pa_cons (pe_lc (own := [("place", 3), ("kind", 2)]) (g := gTup K 2 (gCons (gName 3) (gCons (gName 2) gNil))) (te := tCall (spFollow CK) [] E0 (tCons (tOp (rIxL K) (tVar 0) (tVar 3)) (tCons (tVar 2) tNil))) rfl scOrder.nd
      (pi_enum (by rfl) tE (pa_cons (pe_slice sl_list (pv 0) (po_some pe_int) po_none) pa_nil)) (blkOk_by (N := ["kinds", "signs", "kind", "place"]) (sc := defScope sAreInOrder) (by decide +kernel))
      (fun _ _ _ _ _ => pg_tup rfl (pgs_cons (pg_name (i := 3) scOrder.nd rfl (Or.inl rfl) (hf := Or.inr rfl)) (pgs_cons (pg_name (i := 2) scOrder.nd rfl (Or.inl rfl) (hf := Or.inr rfl)) pgs_nil))) (fun _ _ _ _ _ => pts_nil)
      (fun _ _ _ _ _ => pe_call GF hr rfl mF kF bF .nil pass0 (pa_cons (pe_ix ix_list (pv 0) (pv 3) (fun _ _ => rfl)) (pa_cons (pv 2) pa_nil)))) pa_nil))))), ?_⟩
  have eo : orderI (ks.map KdA.m) = if (ks.filter fun k => isSign k.m).length < 1 ∨ (ks.filter fun k => isSign k.m).length > 48 then false else ((ks.map KdA.m).zip ((ks.map KdA.m).drop 1)).all fun p => followI p.1 p.2 := by
    unfold orderI
    rw [List.filter_map, List.length_map]
    rfl
  refine ⟨_, rfl, p, rfl, ⟨_, SqL.of hp⟩, fun D hD => lc_list (K := K) (a := p) (xs := ks.map fun k => V.ref k.a) (fun i H' => Same H H' ∧ H' D = some (.lst (((ks.take i).filter fun k => isSign k.m).map fun k => V.ref k.a))) ⟨same_upd hD, upd_same⟩
    (fun i H' _ ⟨s1, _⟩ => SqL.of (s1 _ _ hp)) (fun i y H' hi ⟨s1, hd⟩ => ?_) (fun H' ⟨s1, hd⟩ => ?_)⟩
  · obtain ⟨z, hz, rfl⟩ := getK hi
    have hil := (List.getElem?_eq_some_iff.mp hz).1
    have hzk := (ks_at hk (List.mem_of_getElem? hz)).same s1
    refine ⟨rfl, _, rfl, z.a, CK, z.dx, _, _, rfl, kd_at hzk, T.c, T.nRole, kdF_role z, rfl, _, rfl, ?_⟩
    rw [show V.int 0 = V.int ((0 : Nat) : Int) from rfl, dec_int]
    have et := take_filter (p := fun k : KdA => isSign k.m) hz
    refine ite2 (fun hc => ?_) (fun hc => ?_)
    · refine ⟨_, rfl, _, hd, ?_, same_upd2 s1 hD, ?_⟩
      · rw [List.length_map]
        have := List.length_filter_le (fun k : KdA => isSign k.m) (ks.take i)
        rw [List.length_take] at this
        exact line_ge (by omega)
      · rw [upd_same, et, if_pos (show isSign z.m = true from hc), List.map_append]
        rfl
    · refine ⟨s1, ?_⟩
      rw [et, if_neg (show ¬ isSign z.m = true from hc), List.append_nil]
      exact hd
  · rw [List.length_map, List.take_length] at hd
    refine ⟨D, _, rfl, .inl (SqL.of hd), ?_⟩
    rw [List.length_map]
    generalize (ks.filter fun k => isSign k.m).length = n at eo
    refine ⟨_, rfl, _, _, rfl, rfl, _, rfl, ite2 (fun h1 => ?_) (fun h1 => ?_)⟩
    · have h1 : n < 1 := by
        have : ((n : Nat) : Int) < 1 := by simpa using h1
        omega
      have q := k H' s1
      rw [eo, if_pos (Or.inl h1)] at q
      exact q
    · have h1 : ¬ n < 1 := by
        have : ¬ ((n : Nat) : Int) < 1 := by simpa using h1
        omega
      refine ⟨_, rfl, _, _, rfl, rfl, _, rfl, ite2 (fun h2 => ?_) (fun h2 => ?_)⟩
      · have h2 : n > 48 := by
          have : ((n : Nat) : Int) > 48 := by simpa using h2
          omega
        have q := k H' s1
        rw [eo, if_pos (Or.inr h2)] at q
        exact q
      · have h2 : ¬ n > 48 := by
          have : ¬ ((n : Nat) : Int) > 48 := by simpa using h2
          omega
        rw [if_neg (fun z => z.elim h1 h2)] at eo
        refine ⟨_, rfl, _, rfl, p, _, rfl, SqL.of (s1 _ _ hp), fun c hc => ?_⟩
        have ex : cutV (ks.map fun k => V.ref k.a) (some 1) none = (ks.drop 1).map fun k => V.ref k.a := by
          by_cases hz : 1 ≤ ks.length
          · rw [show (1 : Int) = ((1 : Nat) : Int) from rfl, cutV_drop _ (by rw [List.length_map]; exact hz), List.map_drop]
          · have : ks = [] := by
              cases ks with
              | nil => rfl
              | cons a b => exact absurd (by simp) hz
            rw [this]
            rfl
        rw [ex]
        have s2 := s1.trans (same_upd (o := .lst ((ks.drop 1).map fun k => V.ref k.a)) hc)
        have hcc : (upd H' c (.lst ((ks.drop 1).map fun k => V.ref k.a))) c = some (.lst ((ks.drop 1).map fun k => V.ref k.a)) := upd_same
        generalize upd H' c (.lst ((ks.drop 1).map fun k => V.ref k.a)) = H2 at s2 hcc
        refine ⟨c, _, rfl, SqL.of hcc, fun D2 hD2 => lc_enum (K := K) (a := c) (xs := (ks.drop 1).map fun k => V.ref k.a) (FInv H2 D2 fun i y ns => ns = [] ∧ ∃ a b, ks[i]? = some a ∧ ks[i + 1]? = some b ∧ y = .bl (followI a.m b.m)) (FInv.zero hD2) (fun i H3 _ f => SqL.of (f.same _ _ hcc)) (fun i y Tt H3 hi f hT => ?_) (fun H3 f => ?_)⟩
        · obtain ⟨b, hb, rfl⟩ := getK hi
          rw [List.getElem?_drop] at hb
          have hb : ks[i + 1]? = some b := by rw [← hb]; congr 1; omega
          have hib := (List.getElem?_eq_some_iff.mp hb).1
          obtain ⟨a, ha⟩ : ∃ a, ks[i]? = some a := ⟨_, List.getElem?_eq_getElem (by omega)⟩
          have s3 : Same H3 (upd H3 Tt (.tup [.int (i : Nat), .ref b.a])) := same_upd hT
          have s4 := (s2.trans f.same).trans s3
          refine ⟨Tt, _, rfl, SqT.of upd_same, rfl, _, _, rfl, _, _, rfl, rfl, rfl, yes_if ?_⟩
          refine ⟨_, rfl, _, rfl, p, _, (i : Int), .ref a.a, rfl, rfl, SqL.of (s4 _ _ hp), atI_nat (by rw [List.getElem?_map, ha]; rfl), _, rfl, a, b, rfl, (ks_at hk (List.mem_of_getElem? ha)).same s4, (ks_at hk (List.mem_of_getElem? hb)).same s4, fun H5 s5 => ?_⟩
          exact f.step hD2 (by omega) (s3.trans s5) ⟨rfl, a, b, ha, hb, rfl⟩ LiesL.nil (by simp)
        · obtain ⟨ys, s3, hd3, hl3, fl⟩ := f.end
          have hz : ((ks.map KdA.m).zip ((ks.map KdA.m).drop 1)).length = ys.length := by
            rw [hl3]
            simp only [List.length_zip, List.length_map, List.length_drop]
            omega
          have ey : ys = (((ks.map KdA.m).zip ((ks.map KdA.m).drop 1)).map fun p => followI p.1 p.2).map V.bl := by
            rw [List.map_map]
            refine fill_map hz.symm fun i y x h1 h2 => ?_
            obtain ⟨ns, ⟨_, a, b, ea, eb, e⟩, _⟩ := fl i y h1
            rw [List.getElem?_zip_eq_some, List.getElem?_map, List.getElem?_drop, List.getElem?_map, ea, show ks[1 + i]? = some b by rw [← eb]; congr 1; omega] at h2
            obtain ⟨e1, e2⟩ := h2
            have e1 : a.m = x.1 := Option.some.inj e1
            have e2 : b.m = x.2 := Option.some.inj e2
            rw [e, e1, e2]
            rfl
          refine ⟨D2, _, rfl, by rw [← ey]; exact SqL.of hd3, ?_⟩
          have q := k H3 (s2.trans s3)
          rw [eo] at q
          rw [List.all_map]
          exact q
end
end HD
end
section
set_option Elab.async false
set_option linter.all false
set_option maxRecDepth 100000
set_option maxHeartbeats 2000000
namespace HD
open PySem PySem.Spec PyProof.Rows L2
open PySem.W (Codec)
theorem fill_list {β : Type} {v : β → V} {nd : β → NdL} {H : Hp} : ∀ {ys : List V} {R : Nat → β → Prop}, Fill (fun i y ns => ∃ b, R i b ∧ y = v b ∧ ns = nd b) H ys → ∃ bs : List β, ys = bs.map v ∧ (∀ (i : Nat) (b : β), bs[i]? = some b → R i b) ∧ ∀ b ∈ bs, LiesL H (nd b)
  | [], R, _ => ⟨[], rfl, fun i b h => by simp at h, fun b h => absurd h (by simp)⟩
  | y :: ys, R, h => by
    obtain ⟨ns, ⟨b, r, e, en⟩, l⟩ := h 0 y rfl
    obtain ⟨bs, e1, r1, l1⟩ := fill_list (ys := ys) (R := fun i b => R (i + 1) b) fun i z hz => h (i + 1) z hz
    refine ⟨b :: bs, by rw [e1, e]; rfl, fun i c hc => ?_, fun c hc => ?_⟩
    · cases i with
      | zero =>
        have := Option.some.inj hc
        subst this
        exact r
      | succ i => exact r1 i c hc
    · rcases List.mem_cons.mp hc with rfl | hc
      · rw [← en]; exact l
      · exact l1 c hc
theorem dpAll_map {α : Type} {K : PySem.W.Frag} {H : Hp} {v : α → V} {d : α → PyData} : ∀ {l : List α}, (∀ x ∈ l, Dp K H (v x) (d x)) → DpAll K H (l.map v) (l.map d)
  | [], _ => .nil
  | x :: l, h => .cons (h x (by simp)) (dpAll_map fun y hy => h y (List.mem_cons_of_mem _ hy))
/-! ### are_different -/
def nmD (m : KdM) : PyData := .list (m.name.map PyData.int)
def fcD (m : KdM) : PyData := .tuple [.int (m.shape : Nat), .list (m.look.map PyData.int)]
def differI (ms : List KdM) : Bool := !twiceI ((ms.filter isSign).map nmD) && !twiceI (ms.map fcD)
theorem shaped_fc (m : KdM) : SeqAt.shaped (fcD m) = true := by
  unfold SeqAt.shaped fcD
  rw [Bool.and_eq_true, decide_eq_true_eq]
  refine ⟨?_, ?_⟩
  · simp only [PyData.canLay0, PyData.canLayAll0, canLay_ints, Bool.and_self]
  · have := depth_ints m.look
    simp only [PyData.depth, PyData.depthAll]
    omega
section
variable {P : Program} {w : World} {K : PySem.W.Frag} {mg : Str → Option Value} {base : Heap} {CK CL CN N : Addr}
theorem scDiffer : FnScope ["kinds", "names", "faces", "kind"] ["kinds"] (defScope sAreDifferent) := ⟨rfl, rfl, rfl, by decide +kernel, rfl, by decide +kernel, by decide +kernel⟩
theorem ok_differ {f : Addr} {fd : FuncData} (F : Fun K "are_different" "are_different" sAreDifferent f fd) (T : KdT K CK) (cS : Cn mg "SIGN" (.int 0))
    (dT : Dn P w K mg base CX0 1 "has_twice" ["things"] (spTwice K)) : FnOk P w K mg base CX0 2 f fd ["kinds"] (spKinds CK differI) := by
  obtain ⟨uS, mS, rS⟩ := cS
  obtain ⟨fT, fdT, GT, mT, kT, bT⟩ := dT
  refine F.ok scDiffer (fun vs H Q E h => (by obtain ⟨p, ks, rfl, _⟩ := h; rfl)) (fun cdv A outer s H vs Q E hr h => ?_)
  obtain ⟨p, ks, rfl, hp, hk, hl, k⟩ := h
  refine ⟨_, pss_cons (ps_setLc (i := 1) (own := [("kind", 3)]) (tt := tTest (tOp rEq (tFld K (tVar 3) "role") (tC (.int 0)))) (te := tFld K (tVar 3) "name") rfl scDiffer.nd rfl rfl (by rfl) (pi_list (pv 0)) (blkOk_by (N := ["kinds", "names", "faces", "kind"]) (sc := defScope sAreDifferent) (by decide +kernel))
      (fun _ _ _ _ _ => pg_name (i := 3) scDiffer.nd rfl (Or.inl rfl)) (fun _ _ _ _ _ => pts_one (pt_cmpR op_eq (pe_fld (pv 3) rfl) (pe_glob (by rfl) mS rS) (nomark _))) (fun _ _ _ _ _ => pe_fld (pv 3) rfl))
    (pss_cons (ps_setLc (i := 2) (own := [("kind", 3)]) (te := tTup (tCons (tFld K (tVar 3) "shape") (tCons (tFld K (tVar 3) "look") tNil))) rfl scDiffer.nd rfl rfl (by rfl) (pi_list (pv 0)) (blkOk_by (N := ["kinds", "names", "faces", "kind"]) (sc := defScope sAreDifferent) (by decide +kernel))
      (fun _ _ _ _ _ => pg_name (i := 3) scDiffer.nd rfl (Or.inl rfl)) (fun _ _ _ _ _ => pts_nil) (fun _ _ _ _ _ => pe_tup (pa_cons (pe_fld (pv 3) rfl) (pa_cons (pe_fld (pv 3) rfl) pa_nil))))
    (pss_one (ps_ret (pe_and (pe_not (pe_call GT hr rfl mT kT bT .nil pass0 (pa_cons (pv 1) pa_nil))) (pe_one (pe_not (pe_call GT hr rfl mT kT bT .nil pass0 (pa_cons (pv 2) pa_nil)))))))), ?_⟩
  refine ⟨_, rfl, p, rfl, ⟨_, SqL.of hp⟩, fun D hD => lc_list (K := K) (a := p) (xs := ks.map fun k => V.ref k.a) (fun i H' => Same H H' ∧ H' D = some (.lst (((ks.take i).filter fun k => isSign k.m).map fun k => V.ref k.nm))) ⟨same_upd hD, upd_same⟩
    (fun i H' _ ⟨s1, _⟩ => SqL.of (s1 _ _ hp)) (fun i y H' hi ⟨s1, hd⟩ => ?_) (fun H' ⟨s1, hd⟩ => ?_)⟩
  · obtain ⟨z, hz, rfl⟩ := getK hi
    have hil := (List.getElem?_eq_some_iff.mp hz).1
    have hzk := (ks_at hk (List.mem_of_getElem? hz)).same s1
    refine ⟨rfl, _, rfl, z.a, CK, z.dx, _, _, rfl, kd_at hzk, T.c, T.nRole, kdF_role z, rfl, _, rfl, ?_⟩
    rw [show V.int 0 = V.int ((0 : Nat) : Int) from rfl, dec_int]
    have et := take_filter (p := fun k : KdA => isSign k.m) hz
    refine ite2 (fun hc => ?_) (fun hc => ?_)
    · refine ⟨_, rfl, z.a, CK, z.dx, _, _, rfl, kd_at hzk, T.c, T.nName, kdF_name z, _, hd, ?_, same_upd2 s1 hD, ?_⟩
      · rw [List.length_map]
        have := List.length_filter_le (fun k : KdA => isSign k.m) (ks.take i)
        rw [List.length_take] at this
        exact line_ge (by omega)
      · rw [upd_same, et, if_pos (show isSign z.m = true from hc), List.map_append]
        rfl
    · refine ⟨s1, ?_⟩
      rw [et, if_neg (show ¬ isSign z.m = true from hc), List.append_nil]
      exact hd
  · rw [List.length_map, List.take_length] at hd
    refine ⟨_, rfl, p, rfl, ⟨_, SqL.of (s1 _ _ hp)⟩, fun D2 hD2 => lc_list (K := K) (a := p) (xs := ks.map fun k => V.ref k.a) (FInv H' D2 fun i y ns => ∃ b : Addr × KdA, ks[i]? = some b.2 ∧ y = .ref b.1 ∧ ns = [(b.1, .tup [.int (b.2.m.shape : Nat), .ref b.2.lk])]) (FInv.zero hD2)
      (fun i H2 _ f => SqL.of (f.same _ _ (s1 _ _ hp))) (fun i y H2 hi f => ?_) (fun H2 f => ?_)⟩
    · obtain ⟨z, hz, rfl⟩ := getK hi
      have hil := (List.getElem?_eq_some_iff.mp hz).1
      have hzk := (ks_at hk (List.mem_of_getElem? hz)).same (s1.trans f.same)
      refine ⟨rfl, yes_if ⟨_, rfl, z.a, CK, z.dx, _, _, rfl, kd_at hzk, T.c, T.nShape, kdF_shape z, _, rfl, z.a, CK, z.dx, _, _, rfl, kd_at hzk, T.c, T.nLook, kdF_look z, (by show 2 ≤ sizeLine; decide), fun t ht => ?_⟩⟩
      refine f.step hD2 (by omega) (same_upd ht) ⟨(t, z), hz, rfl, rfl⟩ (fun x hx => ?_) fun x hx => ?_
      · have : x = (t, _) := List.mem_singleton.mp hx
        subst this
        exact upd_same
      · have : x = (t, _) := List.mem_singleton.mp hx
        subst this
        exact fun e => f.has (by rw [← e]; exact ht)
    · obtain ⟨ys, s2, hd2, hl2, fl⟩ := f.end
      rw [List.length_map] at hl2
      obtain ⟨bs, e1, r1, l1⟩ := fill_list (v := fun b : Addr × KdA => V.ref b.1) (nd := fun b : Addr × KdA => [(b.1, .tup [.int (b.2.m.shape : Nat), .ref b.2.lk])]) (R := fun i b => ks[i]? = some b.2) fl
      have s12 := s1.trans s2
      have eb : bs.map (·.2) = ks := by
        apply List.ext_getElem?
        intro i
        rw [List.getElem?_map]
        cases e : bs[i]? with
        | some b => rw [r1 i b e]; rfl
        | none =>
          have : bs.length ≤ i := List.getElem?_eq_none_iff.mp e
          have hb : bs.length = ks.length := by rw [← hl2, e1, List.length_map]
          rw [List.getElem?_eq_none (by omega)]
          rfl
      have key : ∀ {H3 : Hp}, Same H2 H3 → DpAll K H3 ys ((ks.map KdA.m).map fcD) := fun {H3} s3 => by
        rw [e1, ← eb, List.map_map, List.map_map]
        refine dpAll_map fun b hb => ?_
        have hk2 : b.2 ∈ ks := by rw [← eb]; exact List.mem_map_of_mem hb
        refine .tup (SqT.of (s3 _ _ (l1 b hb (b.1, _) (List.mem_singleton.mpr rfl)))) (.cons (.int _) (.cons (.lst (SqL.of (s3 _ _ (s12 _ _ (lk_at (ks_at hk hk2))))) (dp_ints _)) .nil))
      have ef : (ks.map KdA.m).filter isSign = (ks.filter fun k => isSign k.m).map KdA.m := by
        rw [List.filter_map]
        rfl
      refine ⟨_, rfl, D, _, ((ks.filter fun k => isSign k.m).map KdA.m).map nmD, rfl, SqL.of (s2 _ _ hd), ?_, ?_, ?_, fun H3 s3 => ⟨_, rfl, _, rfl, ?_⟩⟩
      · rw [List.map_map]
        refine dpAll_map fun b hb => ?_
        exact .lst (SqL.of (s12 _ _ (nm_at (ks_at hk ((List.mem_filter.mp hb).1))))) (dp_ints _)
      · intro d hd
        obtain ⟨m, _, rfl⟩ := List.mem_map.mp hd
        exact shaped_ints _
      · rw [List.length_map]
        exact Nat.le_trans (List.length_filter_le _ _) hl
      · have q := k
        unfold differI at q
        rw [ef] at q
        refine ite2 (fun hc => ?_) (fun hc => ?_)
        · rw [hc] at q
          refine ⟨_, rfl, D2, _, (ks.map KdA.m).map fcD, rfl, SqL.of (s3 _ _ hd2), key s3, fun d hd => ?_, by omega, fun H4 s4 => ⟨_, rfl, q H4 ((s12.trans s3).trans s4)⟩⟩
          obtain ⟨m, _, rfl⟩ := List.mem_map.mp hd
          exact shaped_fc m
        · have hc : (!twiceI (((ks.filter fun k => isSign k.m).map KdA.m).map nmD)) = false := by simpa using hc
          rw [hc, Bool.false_and] at q
          exact q H3 (s12.trans s3)
end
end HD
end
section
set_option Elab.async false
set_option linter.all false
set_option maxRecDepth 100000
set_option maxHeartbeats 2000000
namespace HD
open PySem PySem.Spec PyProof.Rows L2
open PySem.W (Codec)
/-! ### read_locker -/
def kindsI : List (List Int) → Option (List KdM)
  | [] => some []
  | l :: r => match kindI l, kindsI r with
    | some m, some ms => some (m :: ms)
    | _, _ => none
theorem kinds_none : ∀ {r : List (List Int)} {l : List Int}, l ∈ r → kindI l = none → kindsI r = none
  | x :: r, l, h, e => by
    unfold kindsI
    rcases List.mem_cons.mp h with rfl | h
    · rw [e]
    · rw [kinds_none h e]
      cases kindI x <;> rfl
theorem kinds_some : ∀ {r : List (List Int)} {ms : List KdM}, ms.length = r.length → (∀ (i : Nat) l m, r[i]? = some l → ms[i]? = some m → kindI l = some m) → kindsI r = some ms
  | [], [], _, _ => rfl
  | [], _ :: _, h, _ => by simp at h
  | _ :: _, [], h, _ => by simp at h
  | l :: r, m :: ms, h, k => by
    unfold kindsI
    rw [k 0 l m rfl rfl, kinds_some (r := r) (ms := ms) (by simpa using h) fun i l m h1 h2 => k (i + 1) l m h1 h2]
def locker4 (n : Option (List Int)) (ks : Option (List KdM)) : Option (List Int × List KdM) := match n, ks with
  | some n, some ms => if (orderI ms && differI ms) = true then some (n, ms) else none
  | _, _ => none
def lockerI (text : List Int) : Option (List Int × List KdM) := match wholeI text with
  | some (l :: r) => locker4 (nameBehI (codes "locker") l) (kindsI r)
  | _ => none
theorem locker4_2 {n : Option (List Int)} : locker4 n none = none := by cases n <;> rfl
theorem locker4_1 {ks : Option (List KdM)} : locker4 none ks = none := by cases ks <;> rfl
/-- the whole locker, as it lies -/
def lkN (CL CK : Addr) (l : LkA) : NdL := (l.a, .ins CL l.dx (lkF l)) :: (l.nm, .lst (iv l.name)) :: (l.kl, .lst (l.kinds.map fun k => V.ref k.a)) :: ksN CK l.kinds
def spReadLocker (K : PySem.W.Frag) (CL CK CN : Addr) : Sp := fun vs H Q E => ∃ (ap : Addr) (text : List Int), vs = [.ref ap] ∧ SqL K H ap (iv text) ∧ text.length ≤ 66000 ∧
  (∀ x, lockerI text = some x → ∀ H' l, Same H H' → l.name = x.1 → l.kinds.map KdA.m = x.2 → LiesL H' (lkN CL CK l) → l.kinds.length ≤ 66000 → Q (.ref l.a) H') ∧ (lockerI text = none → No E CN H)
section
variable {P : Program} {w : World} {K : PySem.W.Frag} {mg : Str → Option Value} {base : Heap} {CK CL CN N : Addr}
theorem scReadLocker : FnScope ["text", "lines", "name", "kinds", "line"] ["text"] (defScope sReadLocker) := ⟨rfl, rfl, rfl, by decide +kernel, rfl, by decide +kernel, by decide +kernel⟩
theorem ok_readLocker {f : Addr} {fd : FuncData} (F : Fun K "read_locker" "read_locker" sReadLocker f fd) (X : XpT K mg "NoLocker" CN N)
    (dW : Dn P w K mg base CX0 2 "whole_lines" ["text"] (spWhole K)) (dN : Dn P w K mg base CX0 4 "name_behind" ["title", "line"] (spNameBeh K)) (dK : Dn P w K mg base (CXf P w) 5 "read_kind" ["line"] (spReadKind K CK CN))
    (dO : Dn P w K mg base CX0 2 "are_in_order" ["kinds"] (spKinds CK orderI)) (dD : Dn P w K mg base CX0 2 "are_different" ["kinds"] (spKinds CK differI)) (dL : MkD P w K mg base "Locker" CL ["name", "kinds"]) :
    FnOk P w K mg base (CXf P w) 6 f fd ["text"] (spReadLocker K CL CK CN) := by
  obtain ⟨fW, fdW, GW, mW, kW, bW⟩ := dW
  obtain ⟨fN, fdN, GN, mN, kN, bN⟩ := dN
  obtain ⟨fK, fdK, GK, mK, kK, bK⟩ := dK
  obtain ⟨fO, fdO, GO, mO, kO, bO⟩ := dO
  obtain ⟨fD, fdD, GD, mD, kD, bD⟩ := dD
  obtain ⟨fL, fdL, ML, GL, mL, bL⟩ := dL
  refine F.okx scReadLocker (fun vs H Q E h => (by obtain ⟨ap, part, rfl, _⟩ := h; rfl)) (fun cdv A outer s H vs Q E hr h => ?_)
  obtain ⟨ap, text, rfl, hP, hl, k1, k2⟩ := h
  have hr2 : Room 2 _ := hr.mono (by decide)
  have hr4 : Room 4 _ := hr.mono (by decide)
  refine ⟨_, pss_cons (ps_set (i := 1) scReadLocker.nd rfl (Or.inl rfl) (pe_call GW hr2 rfl mW kW bW .nil pass0 (pa_cons (pv 0) pa_nil)))
    (pss_cons (ps_if (PW.pt (pw_or (pt_cmp (pc_isN (pv 1))) (pw_or1 (pt_cmpR (op_eq0 hr.units) (pv 1) (pe_lst pa_nil) (nomark _))))) (pss_one (ps_raise hr.hd X.c (pe_mkx0 X.c X.ini X.keep rfl X.mC))) pss_nil)
    (pss_cons (ps_set (i := 2) scReadLocker.nd rfl (Or.inl rfl) (pe_call GN hr4 rfl mN kN bN .nil pass0 (pa_cons pe_str (pa_cons (pe_ix ix_list (pv 1) pe_int (fun _ _ => rfl)) pa_nil))))
    (pss_cons (ps_setLcx (i := 3) (own := [("line", 4)]) (g := gName 4) (tt := tYes) (te := tCall (spReadKind K CK CN) [] E (tCons (tVar 4) tNil)) rfl cxOf_own scReadLocker.nd rfl rfl (by rfl) (pi_list (pe_slice sl_list (pv 1) (po_some pe_int) po_none)) (blkOk_by (N := ["text", "lines", "name", "kinds", "line"]) (sc := defScope sReadLocker) (by decide +kernel))
      (fun _ _ _ _ _ => pg_name (i := 4) scReadLocker.nd rfl (Or.inl rfl)) (fun _ _ _ _ _ => pts_nil) (fun _ _ _ _ _ => pe_call GK hr rfl mK kK bK .nil passes_fly (pa_cons (pv 4) pa_nil)))
    (pss_cons (ps_if (PW.pt (pw_or (pt_cmp (pc_isN (pv 2))) (pw_or (pt_not (pt_val (pe_call GO hr2 rfl mO kO bO .nil pass0 (pa_cons (pv 3) pa_nil)))) (pw_or1 (pt_not (pt_val (pe_call GD hr2 rfl mD kD bD .nil pass0 (pa_cons (pv 3) pa_nil))))))))
      (pss_one (ps_raise hr.hd X.c (pe_mkx0 X.c X.ini X.keep rfl X.mC))) pss_nil)
    (pss_one (ps_ret (pe_make ML GL hr2 rfl mL bL .nil pass0 (pa_cons (pv 2) (pa_cons (pv 3) pa_nil))))))))), ?_⟩
  refine ⟨_, rfl, ap, text, rfl, hP, by omega, fun H1 v s1 hv => ?_⟩
  have hlw : ∀ L, wholeI text = some L → L.length ≤ 66000 ∧ ∀ w ∈ L, w.length ≤ 100000 := fun L e => by
    unfold wholeI at e
    split at e
    · have e := Option.some.inj e
      subst e
      refine ⟨?_, fun w hw => ?_⟩
      · rw [List.length_dropLast]
        have := cut_len 10 text
        omega
      · have := cut_part 10 text w (List.dropLast_subset _ hw)
        omega
    · cases e
  have el : lockerI text = match wholeI text with
      | some (l :: r) => locker4 (nameBehI (codes "locker") l) (kindsI r)
      | _ => none := rfl
  cases ew : wholeI text with
  | none =>
    rw [ew] at hv el
    have hv : v = .non := hv
    subst hv
    exact ⟨_, rfl, _, rfl, iteT (raise0 ((k2 el).go s1))⟩
  | some L =>
    obtain ⟨hL1, hL2⟩ := hlw L ew
    rw [ew] at hv el
    obtain ⟨p, qs, rfl, hp0, hp, pts, fr⟩ := hv
    refine ⟨_, rfl, _, rfl, iteF ⟨_, rfl, Nat.zero_le _, fun e1 n1 => ?_⟩⟩
    have s2 := same_upd (o := .lst []) n1
    have hp' := s2 _ _ hp
    have pts' := pts.same s2
    have s12 := s1.trans s2
    have he1 : (upd H1 e1 (.lst [])) e1 = some (.lst []) := upd_same
    generalize upd H1 e1 (.lst []) = H2 at s2 hp' pts' s12 he1
    refine ⟨p, e1, _, rfl, rfl, SqL.of hp', SqL.of he1, _, rfl, ite2 (fun hc => ?_) (fun hc => ?_)⟩
    · have hq : qs = [] := by
        cases qs with
        | nil => rfl
        | cons a b => simp at hc
      subst hq
      cases pts'
      exact raise0 ((k2 el).go s12)
    · cases pts' with
      | nil => exact absurd rfl hc
      | @cons q l qs r hq ptr =>
        have ptr : Pts H2 qs r := ptr
        have el : lockerI text = locker4 (nameBehI (codes "locker") l) (kindsI r) := el
        have hr' : r.length ≤ 66000 := by simp only [List.length_cons] at hL1; omega
        have hql : qs.length = r.length := ptr.len
        refine ⟨_, rfl, p, _, 0, V.ref q, rfl, rfl, SqL.of hp', atI_nat (j := 0) rfl, "locker", q, l, rfl, by decide, SqL.of hq, hL2 l (by simp), fun H3 vn s3 hn => ?_⟩
        have s13 := s12.trans s3
        refine ⟨_, rfl, _, rfl, p, _, rfl, SqL.of (s3 _ _ hp'), fun c hc => ?_⟩
        rw [show cutV ((q :: qs).map V.ref) (some 1) none = qs.map V.ref from (cutV_drop _ (i := 1) (by simp)).trans rfl]
        have s4 := same_upd (o := .lst (qs.map V.ref)) hc
        have hcc : (upd H3 c (.lst (qs.map V.ref))) c = some (.lst (qs.map V.ref)) := upd_same
        generalize upd H3 c (.lst (qs.map V.ref)) = H4 at s4 hcc
        have s14 := s13.trans s4
        have ptr4 := ptr.same (s3.trans s4)
        refine ⟨c, rfl, ⟨_, SqL.of hcc⟩, fun D hD => lc_list (K := K) (a := c) (xs := qs.map V.ref) (FInv H4 D fun i y ns => ∃ b : KdA, (∀ l, r[i]? = some l → kindI l = some b.m) ∧ y = .ref b.a ∧ ns = kdN CK b) (FInv.zero hD)
          (fun i H5 _ f => SqL.of (f.same _ _ hcc)) (fun i y H5 hi f => ?_) (fun H5 f => ?_)⟩
        · rw [List.getElem?_map] at hi
          cases eq : qs[i]? with
          | none => rw [eq] at hi; cases hi
          | some qi =>
            rw [eq] at hi
            have ey : V.ref qi = y := Option.some.inj hi
            subst ey
            have hil := (List.getElem?_eq_some_iff.mp eq).1
            obtain ⟨q', _, e', h'⟩ := ptr4.at (j := i) (by omega)
            rw [List.getElem?_map, eq] at e'
            have e' : V.ref qi = V.ref q' := Option.some.inj e'
            injection e' with e'
            subst e'
            have hri : r[i]? = some (r.getD i []) := by
              rw [List.getD_eq_getElem?_getD, List.getElem?_eq_getElem (by omega)]
              rfl
            have hrm := List.mem_of_getElem? hri
            refine ⟨rfl, yes_if ⟨_, rfl, qi, r.getD i [], rfl, SqL.of (f.same _ _ h'), hL2 _ (List.mem_cons_of_mem _ hrm), fun m em H6 kd s6 ek hkd hfr => ?_, fun en => ?_⟩⟩
            · refine f.step hD (by omega) s6 ⟨kd, fun l hl => ?_, rfl, rfl⟩ hkd fun x hx e => f.has (by rw [← e]; exact hfr x hx)
              rw [hri] at hl
              rw [← Option.some.inj hl, ek]
              exact em
            · exact (k2 (by rw [el, kinds_none hrm en, locker4_2])).go (s14.trans f.same)
        · obtain ⟨ys, s5, hd5, hl5, fl⟩ := f.end
          rw [List.length_map] at hl5
          obtain ⟨ks, e1, r1, l1⟩ := fill_list (v := fun b : KdA => V.ref b.a) (nd := kdN CK) (R := fun i b => ∀ l, r[i]? = some l → kindI l = some b.m) fl
          subst e1
          rw [List.length_map] at hl5
          have eks : kindsI r = some (ks.map KdA.m) := kinds_some (by rw [List.length_map]; omega) fun i l m h1 h2 => by
            rw [List.getElem?_map] at h2
            cases e : ks[i]? with
            | none => rw [e] at h2; cases h2
            | some b =>
              rw [e] at h2
              rw [← Option.some.inj h2]
              exact r1 i b e l h1
          rw [eks] at el
          have s15 := s14.trans s5
          have hks := ks_of l1
          cases en : nameBehI (codes "locker") l with
          | none =>
            rw [en, locker4_1] at el
            rw [en] at hn
            have hn : vn = .non := hn
            subst hn
            exact ⟨_, rfl, _, rfl, iteT (raise0 ((k2 el).go s15))⟩
          | some nm =>
            rw [en] at hn el
            obtain ⟨an, rfl, hn1, hn2⟩ := hn
            have el : lockerI text = if (orderI (ks.map KdA.m) && differI (ks.map KdA.m)) = true then some (nm, ks.map KdA.m) else none := el
            refine ⟨_, rfl, _, rfl, iteF ⟨_, rfl, D, ks, rfl, hd5, hks, by omega, fun H6 s6 => ⟨_, rfl, ite2 (fun ho => ?_) (fun ho => ?_)⟩⟩⟩
            · have ho : orderI (ks.map KdA.m) = false := by simpa using ho
              rw [ho, Bool.false_and, if_neg (by decide)] at el
              exact raise0 ((k2 el).go (s15.trans s6))
            · have ho : orderI (ks.map KdA.m) = true := by simpa using ho
              refine ⟨_, rfl, D, ks, rfl, s6 _ _ hd5, hks.same s6, by omega, fun H7 s7 => ⟨_, rfl, ite2 (fun hd => ?_) (fun hd => ?_)⟩⟩
              · have hd : differI (ks.map KdA.m) = false := by simpa using hd
                rw [hd, Bool.and_false, if_neg (by decide)] at el
                exact raise0 ((k2 el).go ((s15.trans s6).trans s7))
              · have hd : differI (ks.map KdA.m) = true := by simpa using hd
                rw [ho, hd, Bool.and_self, if_pos rfl] at el
                have s67 := s6.trans s7
                refine ⟨_, rfl, _, rfl, mk_step rfl fun x dx H8 hx hdx hne e8 s8 => ?_⟩
                refine k1 _ el H8 ⟨x, dx, an, D, nm, ks⟩ ((s15.trans s67).trans s8) rfl rfl (fun y hy => ?_) (by show ks.length ≤ _; omega)
                simp only [lkN, List.mem_cons] at hy
                rcases hy with rfl | rfl | rfl | hy
                · exact e8
                · exact s8 _ _ (s67 _ _ (s5 _ _ (s4 _ _ hn2)))
                · exact s8 _ _ (s67 _ _ hd5)
                · exact (hks.same (s67.trans s8)) y hy
end
end HD
end
section
set_option Elab.async false
set_option linter.all false
set_option maxRecDepth 100000
set_option maxHeartbeats 2000000
namespace HD
open PySem PySem.Spec PyProof.Rows L2
open PySem.W (Codec)
/-! ### read_count -/
def countI (ns : List Int) (pl : Nat) (most : Int) : Option Int := match ns[pl]? with
  | some v => if v < 1 ∨ v > most then none else some v
  | none => none
def spCount (K : PySem.W.Frag) (CS : Addr) : Sp := fun vs H Q E => ∃ (a : Addr) (ns : List Int) (pl : Nat) (most : Int), vs = [.ref a, .int (pl : Nat), .int most] ∧ SqL K H a (iv ns) ∧ (∀ c, countI ns pl most = some c → Q (.int c) H) ∧ (countI ns pl most = none → No E CS H)
section
variable {P : Program} {w : World} {K : PySem.W.Frag} {mg : Str → Option Value} {base : Heap} {CK CL CS N : Addr}
theorem scCount : FnScope ["numbers", "place", "most"] ["numbers", "place", "most"] (defScope sReadCount) := ⟨rfl, rfl, rfl, by decide +kernel, rfl, by decide +kernel, by decide +kernel⟩
theorem ok_count {f : Addr} {fd : FuncData} (F : Fun K "read_count" "read_count" sReadCount f fd) (tL : mg "len" = none) (X : XpT K mg "NoShowing" CS N) : FnOk P w K mg base (CXf P w) 1 f fd ["numbers", "place", "most"] (spCount K CS) := by
  refine F.okx scCount (fun vs H Q E h => (by obtain ⟨a, ns, pl, most, rfl, _⟩ := h; rfl)) (fun cdv A outer s H vs Q E hr h => ?_)
  obtain ⟨a, ns, pl, most, rfl, hP, k1, k2⟩ := h
  refine ⟨_, pss_cons (ps_if (PW.pt (pw_or (pt_cmpR op_ge (pv 1) (pe_callB call_len_seq (by rfl) tL PySem.boot_len (pa_cons (pv 0) pa_nil)) (nomark _))
      (pw_or (pt_cmpR op_lt (pe_ix ix_list (pv 0) (pv 1) (fun _ _ => rfl)) pe_int (nomark _)) (pw_or1 (pt_cmpR op_gt (pe_ix ix_list (pv 0) (pv 1) (fun _ _ => rfl)) (pv 2) (nomark _))))))
      (pss_one (ps_raise hr.hd X.c (pe_mkx0 X.c X.ini X.keep rfl X.mC))) pss_nil) (pss_one (ps_ret (pe_ix ix_list (pv 0) (pv 1) (fun _ _ => rfl)))), ?_⟩
  refine ⟨_, rfl, _, rfl, a, _, rfl, .inl hP, _, _, rfl, rfl, _, rfl, ite2 (fun hc => ?_) (fun hc => ?_)⟩
  · have hc : ns.length ≤ pl := by
      have : (pl : Int) ≥ (((iv ns).length : Nat) : Int) := by simpa using hc
      rw [iv_len] at this
      omega
    have e : countI ns pl most = none := by
      unfold countI
      rw [List.getElem?_eq_none hc]
    exact raise0 (k2 e)
  · have hc : pl < ns.length := by
      have : ¬ (pl : Int) ≥ (((iv ns).length : Nat) : Int) := by simpa using hc
      rw [iv_len] at this
      omega
    obtain ⟨d, hd⟩ : ∃ d, ns[pl]? = some d := ⟨_, List.getElem?_eq_getElem hc⟩
    have ha : atI (iv ns) ((pl : Nat) : Int) = some (.int d) := atI_nat (by unfold iv; rw [List.getElem?_map, hd]; rfl)
    have e0 : countI ns pl most = if d < 1 ∨ d > most then none else some d := by unfold countI; rw [hd]
    refine ⟨_, rfl, _, rfl, a, _, _, V.int d, rfl, rfl, hP, ha, _, _, rfl, rfl, _, rfl, ite2 (fun h1 => ?_) (fun h1 => ?_)⟩
    · have h1 : d < 1 := by simpa using h1
      exact raise0 (k2 (by rw [e0, if_pos (Or.inl h1)]))
    · have h1 : ¬ d < 1 := by simpa using h1
      refine ⟨_, rfl, _, rfl, a, _, _, V.int d, rfl, rfl, hP, ha, _, rfl, _, _, rfl, rfl, _, rfl, ite2 (fun h2 => ?_) (fun h2 => ?_)⟩
      · have h2 : d > most := by simpa using h2
        exact raise0 (k2 (by rw [e0, if_pos (Or.inr h2)]))
      · have h2 : ¬ d > most := by simpa using h2
        exact ⟨_, rfl, _, rfl, a, _, _, V.int d, rfl, rfl, hP, ha, k1 _ (by rw [e0, if_neg (fun z => z.elim h1 h2)])⟩
/-! ### read_hoists -/
def hoGo (ns : List Int) : Nat → Nat → Option (List (List Int) × Nat)
  | 0, pl => some ([], pl)
  | k + 1, pl => match countI ns pl 8 with
    | none => none
    | some c => match hoGo ns k (pl + 1 + c.toNat) with
      | none => none
      | some x => some ((ns.drop (pl + 1)).take c.toNat :: x.1, x.2)
def hoistsI (ns : List Int) : Option (List (List Int)) := match countI ns 0 4 with
  | none => none
  | some m => match hoGo ns m.toNat 1 with
    | none => none
    | some x => if x.2 = ns.length then some x.1 else none
theorem count_pos {ns : List Int} {pl : Nat} {most c : Int} (h : countI ns pl most = some c) : 1 ≤ c ∧ c ≤ most ∧ pl < ns.length ∧ ns[pl]? = some c := by
  unfold countI at h
  split at h
  · rename_i v e
    split at h
    · cases h
    · rename_i z
      have := Option.some.inj h
      subst this
      have := (List.getElem?_eq_some_iff.mp e).1
      exact ⟨by omega, by omega, this, e⟩
  · cases h
theorem cutV_mid (xs : List V) (lo hi : Nat) : cutV xs (some (lo : Int)) (some (hi : Int)) = (xs.drop lo).take (hi - lo) := by
  unfold cutV
  rw [HT.sIx_nat, HT.sIx_nat]
  by_cases h1 : lo ≤ xs.length
  · rw [Nat.min_eq_left h1]
    by_cases h2 : hi ≤ xs.length
    · rw [Nat.min_eq_left h2]
    · rw [Nat.min_eq_right (by omega), List.take_of_length_le (by rw [List.length_drop]; exact Nat.le_refl _), List.take_of_length_le (by rw [List.length_drop]; omega)]
  · have e1 : min lo xs.length = xs.length := by omega
    rw [e1, List.drop_eq_nil_of_le (Nat.le_refl _), List.drop_eq_nil_of_le (show xs.length ≤ lo by omega), List.take_nil, List.take_nil]
def PtsAt2 (H H' : Hp) (L : List (List Int)) (p : Addr) (qs : List Addr) : Prop := H p = none ∧ H' p = some (.lst (qs.map V.ref)) ∧ Pts H' qs L ∧ (∀ q ∈ qs, H q = none)
def spHoists (K : PySem.W.Frag) (CS : Addr) : Sp := fun vs H Q E => ∃ (a : Addr) (ns : List Int), vs = [.ref a] ∧ SqL K H a (iv ns) ∧ (∀ L, hoistsI ns = some L → ∀ H' p qs, Same H H' → PtsAt2 H H' L p qs → Q (.ref p) H') ∧ (hoistsI ns = none → No E CS H)
theorem scHoists : FnScope ["numbers", "many", "hoists", "place", "end"] ["numbers"] (defScope sReadHoists) := ⟨rfl, rfl, rfl, by decide +kernel, rfl, by decide +kernel, by decide +kernel⟩
def hoAt (acc : List (List Int)) (o : Option (List (List Int) × Nat)) : Option (List (List Int) × Nat) := o.map fun x => (acc ++ x.1, x.2)
theorem ok_hoists {f : Addr} {fd : FuncData} (F : Fun K "read_hoists" "read_hoists" sReadHoists f fd) (tL : mg "len" = none) (X : XpT K mg "NoShowing" CS N) (cH : Cn mg "MOST_HOISTS" (.int 4)) (cF : Cn mg "MOST_FLAGS" (.int 8))
    (dC : Dn P w K mg base (CXf P w) 1 "read_count" ["numbers", "place", "most"] (spCount K CS)) : FnOk P w K mg base (CXf P w) 2 f fd ["numbers"] (spHoists K CS) := by
  obtain ⟨uH, mH, rH⟩ := cH
  obtain ⟨uF, mF, rF⟩ := cF
  obtain ⟨fC, fdC, GC, mC, kC, bC⟩ := dC
  refine F.okx scHoists (fun vs H Q E h => (by obtain ⟨a, ns, rfl, _⟩ := h; rfl)) (fun cdv A outer s H vs Q E hr h => ?_)
  obtain ⟨a, ns, rfl, hP, k1, k2⟩ := h
  refine ⟨_, pss_cons (ps_set (i := 1) scHoists.nd rfl (Or.inl rfl) (pe_call GC hr rfl mC kC bC .nil passes_fly (pa_cons (pv 0) (pa_cons pe_int (pa_cons (pe_glob (by rfl) mH rH) pa_nil)))))
    (pss_cons (ps_set (i := 2) scHoists.nd rfl (Or.inl rfl) (pe_lst pa_nil))
    (pss_cons (ps_set (i := 3) scHoists.nd rfl (Or.inl rfl) pe_int)
    (pss_cons (ps_while (own_fly cxOf_own) (pt_cmpR op_lt (pe_callB call_len_seq (by rfl) tL PySem.boot_len (pa_cons (pv 2) pa_nil)) (pv 1) (nomark _))
      (pss_cons (ps_set (i := 4) scHoists.nd rfl (Or.inl rfl) (pe_op op_add (pe_op op_add (pv 3) pe_int) (pe_call GC hr rfl mC kC bC .nil passes_fly (pa_cons (pv 0) (pa_cons (pv 3) (pa_cons (pe_glob (by rfl) mF rF) pa_nil))))))
      (pss_cons (ps_expr (pe_bm PySem.F.plainAttrs_list PySem.F.slot_list_append PySem.F.type_list_append mt_append (pv 2) (pa_cons (pe_slice sl_list (pv 0) (po_some (pe_op op_add (pv 3) pe_int)) (po_some (pv 4))) pa_nil)))
      (pss_one (ps_set (i := 3) scHoists.nd rfl (Or.inl rfl) (pv 4))))))
    (pss_cons (ps_if (pt_cmpR op_ne (pv 3) (pe_callB call_len_seq (by rfl) tL PySem.boot_len (pa_cons (pv 0) pa_nil)) (nomark _)) (pss_one (ps_raise hr.hd X.c (pe_mkx0 X.c X.ini X.keep rfl X.mC))) pss_nil)
    (pss_one (ps_ret (pv 2))))))), ?_⟩
  have eh : hoistsI ns = match countI ns 0 4 with
    | none => none
    | some m => match hoGo ns m.toNat 1 with
      | none => none
      | some x => if x.2 = ns.length then some x.1 else none := rfl
  refine ⟨_, rfl, a, ns, 0, 4, rfl, hP, fun M eM => ?_, fun z => k2 (by rw [eh, z])⟩
  rw [eM] at eh
  obtain ⟨M1, M4, _, _⟩ := count_pos eM
  obtain ⟨M, rfl⟩ : ∃ k : Nat, M = (k : Int) := ⟨M.toNat, by omega⟩
  have eh : hoistsI ns = match hoGo ns M 1 with
      | none => none
      | some x => if x.2 = ns.length then some x.1 else none := eh
  refine ⟨Nat.zero_le _, fun p hp => ?_⟩
  refine ⟨fun n σ H' => ∃ (i pl : Nat) (ve : Option V) (qs : List Addr) (acc : List (List Int)), σ = [some (.ref a), some (.int (M : Nat)), some (.ref p), some (.int (pl : Nat)), ve] ∧ Same H H' ∧ H' p = some (.lst (qs.map V.ref)) ∧ Pts H' qs acc ∧ p ∉ qs ∧ (∀ q ∈ qs, H q = none) ∧ acc.length = i ∧ i ≤ M ∧ n = M - i ∧ hoGo ns M 1 = hoAt acc (hoGo ns (M - i) pl),
    ⟨M, 0, 1, none, [], [], rfl, same_upd hp, upd_same, .nil, by simp, by simp, rfl, Nat.zero_le _, rfl, ?_⟩, ?_⟩
  · rw [Nat.sub_zero]
    unfold hoAt
    cases hoGo ns M 1 with
    | none => rfl
    | some x => rfl
  · rintro n σ H' ⟨i, pl, ve, qs, acc, rfl, s1, hl, pts, np, fr, rfl, hi, rfl, inv⟩
    have hq : qs.length = acc.length := pts.len
    refine ⟨_, rfl, p, _, rfl, .inl (SqL.of hl), _, rfl, _, _, rfl, rfl, _, rfl, ite2 (fun hc => ?_) (fun hc => ?_)⟩
    · have hc : acc.length < M := by
        have : (((qs.map V.ref).length : Nat) : Int) < (M : Int) := by simpa using hc
        rw [List.length_map] at this
        omega
      obtain ⟨k, ek⟩ : ∃ k, M - acc.length = k + 1 := ⟨M - acc.length - 1, by omega⟩
      rw [ek] at inv
      refine ⟨fun σ H' => ∃ (pl : Nat) (ve : Option V) (qs' : List Addr) (acc' : List (List Int)), σ = [some (.ref a), some (.int (M : Nat)), some (.ref p), some (.int (pl : Nat)), ve] ∧ Same H H' ∧ H' p = some (.lst (qs'.map V.ref)) ∧ Pts H' qs' acc' ∧ p ∉ qs' ∧ (∀ q ∈ qs', H q = none) ∧ acc'.length = acc.length + 1 ∧ hoGo ns M 1 = hoAt acc' (hoGo ns k pl), ?_, ?_⟩
      · rintro σ' H2 ⟨pl', ve', qs', acc', rfl, s2, hl2, pts2, np2, fr2, e2, inv2⟩
        exact ⟨M - acc'.length, by omega, acc'.length, pl', ve', qs', acc', rfl, s2, hl2, pts2, np2, fr2, rfl, by omega, rfl, by rw [show M - acc'.length = k by omega]; exact inv2⟩
      · have step : hoGo ns (k + 1) pl = match countI ns pl 8 with
          | none => none
          | some c => match hoGo ns k (pl + 1 + c.toNat) with
            | none => none
            | some x => some ((ns.drop (pl + 1)).take c.toNat :: x.1, x.2) := rfl
        refine ⟨_, rfl, _, _, rfl, rfl, _, rfl, _, rfl, a, ns, pl, 8, rfl, s1.seq hP, fun c ec => ?_, fun z => (k2 ?_).go s1⟩
        · rw [ec] at step
          obtain ⟨c1, c8, cl, _⟩ := count_pos ec
          obtain ⟨c, rfl⟩ : ∃ k : Nat, c = (k : Int) := ⟨c.toNat, by omega⟩
          refine ⟨_, _, rfl, rfl, ?_⟩
          refine ⟨_, rfl, .inl ⟨rfl, _, SqL.of hl⟩, _, rfl, _, rfl, _, _, rfl, rfl, _, rfl, _, rfl, _, rfl, a, _, rfl, s1.seq hP, fun q hq' => ?_⟩
          have ecut : cutV (iv ns) (some ((pl : Int) + 1)) (some ((pl : Int) + 1 + (c : Int))) = iv ((ns.drop (pl + 1)).take c) := by
            have := cutV_mid (iv ns) (pl + 1) (pl + 1 + c)
            rw [show ((pl : Int) + 1) = (((pl + 1 : Nat)) : Int) by omega, show (((pl + 1 : Nat) : Int) + (c : Int)) = (((pl + 1 + c : Nat)) : Int) by omega, this]
            unfold iv
            rw [List.map_take, List.map_drop, show pl + 1 + c - (pl + 1) = c by omega]
          rw [ecut]
          have npq : p ≠ q := ne_of_none hl hq'
          have nqq : q ∉ qs := fun hm => by
            obtain ⟨l, _, r⟩ := Pts.mem pts q hm
            rw [r] at hq'
            cases hq'
          refine ⟨p, _, _, rfl, rfl, (by rw [upd_ne npq]; exact hl), ?_, ?_⟩
          · rw [List.length_map]
            exact line_ge (by omega)
          · refine ⟨_, rfl, pl + 1 + c, some (.int ((pl : Int) + 1 + (c : Int))), qs ++ [q], acc ++ [(ns.drop (pl + 1)).take c], ?_, same_upd2 (same_upd2 s1 (s1.free hq')) hp, ?_, ?_, ?_, ?_, by simp, ?_⟩
            · exact congrArg (fun z => [some (V.ref a), some (V.int (M : Nat)), some (V.ref p), some (V.int z), some (V.int ((pl : Int) + 1 + (c : Int)))]) (show (pl : Int) + 1 + (c : Int) = ((pl + 1 + c : Nat) : Int) by omega)
            · rw [upd_same, List.map_append]
              rfl
            · refine Pts.upd (Pts.snoc upd_same (Pts.upd pts nqq)) fun z => ?_
              rcases List.mem_append.mp z with z | z
              · exact np z
              · exact npq (by simpa using z)
            · intro z
              rcases List.mem_append.mp z with z | z
              · exact np z
              · exact npq (by simpa using z)
            · intro q' z
              rcases List.mem_append.mp z with z | z
              · exact fr q' z
              · rw [show q' = q by simpa using z]
                exact s1.free hq'
            · rw [inv, step]
              unfold hoAt
              have e8 : ((c : Int)).toNat = c := by omega
              dsimp only
              rw [e8]
              cases hoGo ns k (pl + 1 + c) with
              | none => rfl
              | some x =>
                show some (acc ++ _ :: x.1, x.2) = some ((acc ++ [_]) ++ x.1, x.2)
                rw [List.append_assoc]
                rfl
        · rw [eh, inv, step, z]
          rfl
    · have hc : ¬ acc.length < M := by
        have : ¬ (((qs.map V.ref).length : Nat) : Int) < (M : Int) := by simpa using hc
        rw [List.length_map] at this
        omega
      rw [show M - acc.length = 0 by omega] at inv
      have inv : hoGo ns M 1 = some (acc ++ [], pl) := inv
      rw [List.append_nil] at inv
      rw [inv] at eh
      have eh : hoistsI ns = if pl = ns.length then some acc else none := eh
      refine ⟨_, rfl, _, rfl, a, _, rfl, .inl (s1.seq hP), rfl, _, rfl, ?_⟩
      rw [iv_len, dec_int]
      refine ite2 (fun hd => ?_) (fun hd => ?_)
      · have hd : ¬ pl = ns.length := by simpa using hd
        exact raise0 ((k2 (by rw [eh, if_neg hd])).go s1)
      · have hd : pl = ns.length := by simpa using hd
        exact ⟨_, rfl, k1 acc (by rw [eh, if_pos hd]) H' p qs s1 ⟨hp, hl, pts, fr⟩⟩
end
end HD
end
section
set_option Elab.async false
set_option linter.all false
set_option maxRecDepth 100000
set_option maxHeartbeats 2000000
namespace HD
open PySem PySem.Spec PyProof.Rows L2
open PySem.W (Codec)
/-! ### means_a_sign, means_a_row -/
def meansI (m : KdM) (above : Nat) : Bool := if m.role = 1 then decide (m.which ≤ (above : Int)) else decide (m.role = 0)
def spMeans (CK : Addr) : Sp := fun vs H Q _ => ∃ (k : KdA) (n : Nat), vs = [.ref k.a, .int (n : Nat)] ∧ LiesL H (kdN CK k) ∧ ∀ H', Same H H' → Q (.bl (meansI k.m n)) H'
abbrev rLtI : R2 := rI0 fun i j => .bl (decide (i < j))
abbrev rLeI : R2 := rI0 fun i j => .bl (decide (i ≤ j))
abbrev rLenS (K : PySem.W.Frag) : List V → Hp → VK → Prop := fun xs H Q => ∃ p ys, xs = [.ref p] ∧ (SqL K H p ys ∨ SqT K H p ys) ∧ Q (.int ys.length) H
def zeroK : KdM := ⟨0, [], 0, 0, 0, []⟩
def rowMeansI (ms : List KdM) (fs : List Nat) : Bool := fs.all (fun f => decide (f < ms.length)) && (List.range fs.length).all fun i => meansI (ms.getD (fs.getD i 0) zeroK) i
abbrev nv (l : List Nat) : List Int := l.map fun n => ((n : Nat) : Int)
def spRowMeans (K : PySem.W.Frag) (CK : Addr) : Sp := fun vs H Q _ => ∃ (p a : Addr) (ks : List KdA) (fs : List Nat), vs = [.ref p, .ref a] ∧ H p = some (.lst (ks.map fun k => V.ref k.a)) ∧ LiesL H (ksN CK ks) ∧ SqL K H a (iv (nv fs)) ∧ fs.length ≤ 100000 ∧ ∀ H', Same H H' → Q (.bl (rowMeansI (ks.map KdA.m) fs)) H'
theorem getN {l : List Nat} {i : Nat} {y : V} (h : (iv (nv l))[i]? = some y) : ∃ z, l[i]? = some z ∧ y = V.int (z : Nat) := by
  obtain ⟨z, hz, e⟩ := getI h
  rw [List.getElem?_map] at hz
  cases q : l[i]? with
  | none => rw [q] at hz; cases hz
  | some n =>
    rw [q] at hz
    have := Option.some.inj hz
    subst this
    exact ⟨n, rfl, e⟩
theorem nv_len (l : List Nat) : (nv l).length = l.length := by unfold nv; rw [List.length_map]
theorem dec_ltn (n m : Nat) : decide (((n : Nat) : Int) < ((m : Nat) : Int)) = decide (n < m) := by
  by_cases h : n < m
  · rw [decide_eq_true h, decide_eq_true (by omega)]
  · rw [decide_eq_false h, decide_eq_false (by omega)]
theorem getD_map {α β : Type} {f : α → β} {l : List α} {i : Nat} {a : α} {d : β} (h : l[i]? = some a) : (l.map f).getD i d = f a := by
  rw [List.getD_eq_getElem?_getD, List.getElem?_map, h]
  rfl
theorem getD_at {α : Type} {l : List α} {i : Nat} {a d : α} (h : l[i]? = some a) : l.getD i d = a := by
  rw [List.getD_eq_getElem?_getD, h]
  rfl
section
variable {P : Program} {w : World} {K : PySem.W.Frag} {mg : Str → Option Value} {base : Heap} {CK CL CS N : Addr}
theorem scMeans : FnScope ["kind", "above"] ["kind", "above"] (defScope sMeansASign) := ⟨rfl, rfl, rfl, by decide +kernel, rfl, by decide +kernel, by decide +kernel⟩
theorem ok_means {f : Addr} {fd : FuncData} (F : Fun K "means_a_sign" "means_a_sign" sMeansASign f fd) (T : KdT K CK) (cS : Cn mg "SIGN" (.int 0)) (cSa : Cn mg "SAME" (.int 1)) : FnOk P w K mg base CX0 1 f fd ["kind", "above"] (spMeans CK) := by
  obtain ⟨uS, mS, rS⟩ := cS
  obtain ⟨uA, mA, rA⟩ := cSa
  refine F.ok scMeans (fun vs H Q E h => (by obtain ⟨a, b, rfl, _⟩ := h; rfl)) (fun cdv A outer s H vs Q E hr h => ?_)
  obtain ⟨z, n, rfl, hz, k⟩ := h
  refine ⟨_, pss_cons (ps_if (pt_cmpR op_eq (pe_fld (pv 0) rfl) (pe_glob (by rfl) mA rA) (nomark _)) (pss_one (ps_ret (pe_cmpR op_le (pe_fld (pv 0) rfl) (pv 1) (nomark _)))) pss_nil)
    (pss_one (ps_ret (pe_cmpR op_eq (pe_fld (pv 0) rfl) (pe_glob (by rfl) mS rS) (nomark _)))), ?_⟩
  have q := k H (Same.refl H)
  unfold meansI at q
  refine ⟨_, rfl, z.a, CK, z.dx, _, _, rfl, kd_at hz, T.c, T.nRole, kdF_role z, rfl, _, rfl, ?_⟩
  rw [show V.int 1 = V.int ((1 : Nat) : Int) from rfl, dec_int]
  refine ite2 (fun h1 => ?_) (fun h1 => ?_)
  · have h1 : z.m.role = 1 := by simpa using h1
    rw [if_pos h1] at q
    exact ⟨_, rfl, z.a, CK, z.dx, _, _, rfl, kd_at hz, T.c, T.nWhich, kdF_which z, _, rfl, _, _, rfl, rfl, q⟩
  · have h1 : ¬ z.m.role = 1 := by simpa using h1
    rw [if_neg h1] at q
    refine ⟨_, rfl, z.a, CK, z.dx, _, _, rfl, kd_at hz, T.c, T.nRole, kdF_role z, rfl, ?_⟩
    rw [show V.int 0 = V.int ((0 : Nat) : Int) from rfl, dec_int]
    exact q
theorem scRowMeans : FnScope ["kinds", "hoist", "flag", "above"] ["kinds", "hoist"] (defScope sMeansARow) := ⟨rfl, rfl, rfl, by decide +kernel, rfl, by decide +kernel, by decide +kernel⟩
theorem ok_rowMeans {f : Addr} {fd : FuncData} (F : Fun K "means_a_row" "means_a_row" sMeansARow f fd) (tL : mg "len" = none) (tA : mg "all" = none) (tE : mg "enumerate" = none) (dM : Dn P w K mg base CX0 1 "means_a_sign" ["kind", "above"] (spMeans CK)) :
    FnOk P w K mg base CX0 2 f fd ["kinds", "hoist"] (spRowMeans K CK) := by
  obtain ⟨fM, fdM, GM, mM, kM, bM⟩ := dM
  refine F.ok scRowMeans (fun vs H Q E h => (by obtain ⟨p, a, ks, fs, rfl, _⟩ := h; rfl)) (fun cdv A outer s H vs Q E hr h => ?_)
  obtain ⟨p, a, ks, fs, rfl, hp, hk, ha, hl, k⟩ := h
  refine ⟨_, pss_cons (ps_if (pt_not (pt_val (pe_callB (cr_all rfl) (by rfl) tA boot_all (pa_cons (pe_lc (own := [("flag", 2)]) (te := tOp rLtI (tVar 2) (tCB (rLenS K) (tCons (tVar 0) tNil))) rfl scRowMeans.nd (pi_list (pv 1)) (blkOk_by (N := ["kinds", "hoist", "flag", "above"]) (sc := defScope sMeansARow) (by decide +kernel))
      (fun _ _ _ _ _ => pg_name (i := 2) scRowMeans.nd rfl (Or.inl rfl)) (fun _ _ _ _ _ => pts_nil) (fun _ _ _ _ _ => pe_cmpR op_lt (pv 2) (pe_callB call_len_seq (by rfl) tL PySem.boot_len (pa_cons (pv 0) pa_nil)) (nomark _))) pa_nil)))) (pss_one (ps_ret pe_bl)) pss_nil)
    (pss_one (ps_ret (pe_callB (cr_all rfl) (by rfl) tA boot_all (pa_cons (pe_lc (own := [("above", 3), ("flag", 2)]) (g := gTup K 2 (gCons (gName 3) (gCons (gName 2) gNil))) (te := tCall (spMeans CK) [] E0 (tCons (tOp (rIxL K) (tVar 0) (tVar 2)) (tCons (tVar 3) tNil))) rfl scRowMeans.nd
      (pi_enum (by rfl) tE (pa_cons (pv 1) pa_nil)) (blkOk_by (N := ["kinds", "hoist", "flag", "above"]) (sc := defScope sMeansARow) (by decide +kernel))
      (fun _ _ _ _ _ => pg_tup rfl (pgs_cons (pg_name (i := 3) scRowMeans.nd rfl (Or.inl rfl) (hf := Or.inr rfl)) (pgs_cons (pg_name (i := 2) scRowMeans.nd rfl (Or.inl rfl) (hf := Or.inr rfl)) pgs_nil))) (fun _ _ _ _ _ => pts_nil)
      (fun _ _ _ _ _ => pe_call GM hr rfl mM kM bM .nil pass0 (pa_cons (pe_ix ix_list (pv 0) (pv 2) (fun _ _ => rfl)) (pa_cons (pv 3) pa_nil)))) pa_nil)))), ?_⟩
  have hlen : (iv (nv fs)).length = fs.length := by rw [iv_len, nv_len]
  refine ⟨_, rfl, a, rfl, ⟨_, ha⟩, fun D hD => lc_list (K := K) (a := a) (xs := iv (nv fs)) (FInv H D fun i y ns => ns = [] ∧ y = .bl (decide (fs.getD i 0 < ks.length))) (FInv.zero hD)
    (fun i H' _ f => f.same.seq ha) (fun i y H' hi f => ?_) (fun H' f => ?_)⟩
  · obtain ⟨z, hz, rfl⟩ := getN hi
    have hil := (List.getElem?_eq_some_iff.mp hz).1
    refine ⟨rfl, yes_if ⟨_, rfl, _, rfl, p, _, rfl, .inl (SqL.of (f.same _ _ hp)), _, _, rfl, rfl, ?_⟩⟩
    refine f.step hD (by omega) (Same.refl H') ⟨rfl, ?_⟩ LiesL.nil (by simp)
    show V.bl (decide (((z : Nat) : Int) < (((ks.map fun k => V.ref k.a).length : Nat) : Int))) = _
    rw [dec_ltn, List.length_map, getD_at hz]
  · obtain ⟨ys, s1, hd1, hl1, fl⟩ := f.end
    rw [hlen] at hl1
    have ey : ys = (fs.map fun f => decide (f < ks.length)).map V.bl := by
      rw [List.map_map]
      refine fill_map hl1 fun i y x h1 h2 => ?_
      obtain ⟨ns, ⟨_, e⟩, _⟩ := fl i y h1
      rw [e, getD_at h2]
      rfl
    refine ⟨D, fs.map fun f => decide (f < ks.length), rfl, by rw [← ey]; exact SqL.of hd1, _, rfl, ?_⟩
    have q := k
    unfold rowMeansI at q
    rw [List.length_map] at q
    rw [List.all_map]
    show if (!(fs.all fun f => decide (f < ks.length))) = true then _ else _
    refine ite2 (fun hc => ?_) (fun hc => ?_)
    · have hc : (fs.all fun f => decide (f < ks.length)) = false := by simpa using hc
      rw [hc, Bool.false_and] at q
      exact q H' s1
    · have hc : (fs.all fun f => decide (f < ks.length)) = true := by simpa using hc
      rw [hc, Bool.true_and] at q
      have hlt : ∀ f ∈ fs, f < ks.length := fun f hf => by simpa using List.all_eq_true.mp hc f hf
      refine ⟨_, rfl, a, _, rfl, s1.seq ha, fun D2 hD2 => lc_enum (K := K) (a := a) (xs := iv (nv fs)) (FInv H' D2 fun i y ns => ns = [] ∧ y = .bl (meansI ((ks.map KdA.m).getD (fs.getD i 0) zeroK) i)) (FInv.zero hD2)
        (fun i H3 _ f => (s1.trans f.same).seq ha) (fun i y T H3 hi f hT => ?_) (fun H3 f => ?_)⟩
      · obtain ⟨z, hz, rfl⟩ := getN hi
        have hil := (List.getElem?_eq_some_iff.mp hz).1
        have hzl := hlt z (List.mem_of_getElem? hz)
        obtain ⟨b, hb⟩ : ∃ b, ks[z]? = some b := ⟨_, List.getElem?_eq_getElem hzl⟩
        have s3 : Same H3 (upd H3 T (.tup [.int (i : Nat), .int (z : Nat)])) := same_upd hT
        have s4 := (s1.trans f.same).trans s3
        refine ⟨T, _, rfl, SqT.of upd_same, rfl, _, _, rfl, _, _, rfl, rfl, rfl, yes_if ?_⟩
        refine ⟨_, rfl, _, rfl, p, _, (z : Int), .ref b.a, rfl, rfl, SqL.of (s4 _ _ hp), atI_nat (by rw [List.getElem?_map, hb]; rfl), _, rfl, b, i, rfl, (ks_at hk (List.mem_of_getElem? hb)).same s4, fun H5 s5 => ?_⟩
        refine f.step hD2 (by omega) (s3.trans s5) ⟨rfl, ?_⟩ LiesL.nil (by simp)
        rw [getD_at hz, getD_map hb]
      · obtain ⟨ys2, s3, hd3, hl3, fl3⟩ := f.end
        rw [hlen] at hl3
        have ey2 : ys2 = ((List.range fs.length).map fun i => meansI ((ks.map KdA.m).getD (fs.getD i 0) zeroK) i).map V.bl := by
          rw [List.map_map]
          refine fill_map (by rw [hl3, List.length_range]) fun i y x h1 h2 => ?_
          obtain ⟨ns, ⟨_, e⟩, _⟩ := fl3 i y h1
          rw [e, range_at h2]
          rfl
        refine ⟨D2, _, rfl, by rw [← ey2]; exact SqL.of hd3, ?_⟩
        rw [List.all_map]
        exact q H3 (s1.trans s3)
end
end HD
end
section
set_option Elab.async false
set_option linter.all false
set_option maxRecDepth 100000
set_option maxHeartbeats 2000000
namespace HD
open PySem PySem.Spec PyProof.Rows L2
open PySem.W (Codec)
/-! ### is_out_of -/
def fewI (ms : List KdM) (fl : List Nat) (i : Nat) : Bool := decide (((fl.count i : Nat) : Int) ≤ (ms.getD i zeroK).copies)
def outI (ms : List KdM) (hs : List (List Nat)) : Bool := hs.all (rowMeansI ms) && (List.range ms.length).all (fewI ms hs.flatten)
theorem count_nv (l : List Nat) (i : Nat) : (nv l).count (i : Int) = l.count i := by
  induction l with
  | nil => rfl
  | cons a l ih =>
    unfold nv at ih ⊢
    rw [List.map_cons, List.count_cons, List.count_cons, ih]
    congr 1
    by_cases h : a = i
    · subst h; simp
    · have h2 : ¬ ((a : Int) = (i : Int)) := by omega
      rw [beq_eq_false_iff_ne.mpr h, beq_eq_false_iff_ne.mpr h2]
theorem lk_a {CL CK : Addr} {H : Hp} {l : LkA} (h : LiesL H (lkN CL CK l)) : H l.a = some (.ins CL l.dx (lkF l)) := h (l.a, _) (by simp [lkN])
theorem lk_kl {CL CK : Addr} {H : Hp} {l : LkA} (h : LiesL H (lkN CL CK l)) : H l.kl = some (.lst (l.kinds.map fun k => V.ref k.a)) := h (l.kl, _) (by simp [lkN])
theorem lk_ks {CL CK : Addr} {H : Hp} {l : LkA} (h : LiesL H (lkN CL CK l)) : LiesL H (ksN CK l.kinds) := fun x hx => h x (by unfold lkN; exact List.mem_cons_of_mem _ (List.mem_cons_of_mem _ (List.mem_cons_of_mem _ hx)))
def spOut (CL CK : Addr) : Sp := fun vs H Q _ => ∃ (l : LkA) (p : Addr) (qs : List Addr) (hs : List (List Nat)), vs = [.ref l.a, .ref p] ∧ LiesL H (lkN CL CK l) ∧ l.kinds.length ≤ 100000 ∧ H p = some (.lst (qs.map V.ref)) ∧ Pts H qs (hs.map nv) ∧ hs.length ≤ 1000 ∧ (∀ h ∈ hs, h.length ≤ 100) ∧ ∀ H', Same H H' → Q (.bl (outI (l.kinds.map KdA.m) hs)) H'
theorem flat_le {hs : List (List Nat)} (h : ∀ x ∈ hs, x.length ≤ 100) (n : Nat) : (hs.take n).flatten.length ≤ 100 * n := by
  induction hs generalizing n with
  | nil => simp
  | cons a r ih =>
    cases n with
    | zero => simp
    | succ n =>
      have h1 := h a (by simp)
      have h2 := ih (fun x hx => h x (List.mem_cons_of_mem _ hx)) n
      rw [List.take_succ_cons, List.flatten_cons, List.length_append]
      omega
theorem Pts.at' {H : Hp} {qs : List Addr} {hs : List (List Nat)} (h : Pts H qs (hs.map nv)) {i : Nat} {y : V} (e : (qs.map V.ref)[i]? = some y) : ∃ q l, y = .ref q ∧ hs[i]? = some l ∧ H q = some (.lst (iv (nv l))) := by
  rw [List.getElem?_map] at e
  cases eq : qs[i]? with
  | none => rw [eq] at e; cases e
  | some q =>
    rw [eq] at e
    have hi := (List.getElem?_eq_some_iff.mp eq).1
    have hl := h.len
    rw [List.length_map] at hl
    obtain ⟨q', _, e', h'⟩ := h.at (j := i) (by rw [List.length_map]; omega)
    rw [List.getElem?_map, eq] at e'
    have e' : V.ref q = V.ref q' := Option.some.inj e'
    injection e' with e'
    subst e'
    obtain ⟨l, hl2⟩ : ∃ l, hs[i]? = some l := ⟨_, List.getElem?_eq_getElem (by omega)⟩
    refine ⟨q, l, (Option.some.inj e).symm, hl2, ?_⟩
    rw [h', getD_map hl2]
section
variable {P : Program} {w : World} {K : PySem.W.Frag} {mg : Str → Option Value} {base : Heap} {CK CL CS N : Addr}
theorem scOut : FnScope ["locker", "hoists", "hoist", "flags", "number", "kind"] ["locker", "hoists"] (defScope sIsOutOf) := ⟨rfl, rfl, rfl, by decide +kernel, rfl, by decide +kernel, by decide +kernel⟩
theorem ok_out {f : Addr} {fd : FuncData} (F : Fun K "is_out_of" "is_out_of" sIsOutOf f fd) (T : KdT K CK) (TL : LkT K CL) (tA : mg "all" = none) (tE : mg "enumerate" = none) (dM : Dn P w K mg base CX0 2 "means_a_row" ["kinds", "hoist"] (spRowMeans K CK)) :
    FnOk P w K mg base CX0 3 f fd ["locker", "hoists"] (spOut CL CK) := by
  obtain ⟨fM, fdM, GM, mM, kM, bM⟩ := dM
  refine F.ok scOut (fun vs H Q E h => (by obtain ⟨l, p, qs, hs, rfl, _⟩ := h; rfl)) (fun cdv A outer s H vs Q E hr h => ?_)
  obtain ⟨l, p, qs, hs, rfl, hL, hkl, hp, pts, hh, h100, k⟩ := h
  refine ⟨_, pss_cons (ps_if (pt_not (pt_val (pe_callB (cr_all rfl) (by rfl) tA boot_all (pa_cons (pe_lc (own := [("hoist", 2)]) (te := tCall (spRowMeans K CK) [] E0 (tCons (tFld K (tVar 0) "kinds") (tCons (tVar 2) tNil))) rfl scOut.nd (pi_list (pv 1)) (blkOk_by (N := ["locker", "hoists", "hoist", "flags", "number", "kind"]) (sc := defScope sIsOutOf) (by decide +kernel))
      (fun _ _ _ _ _ => pg_name (i := 2) scOut.nd rfl (Or.inl rfl)) (fun _ _ _ _ _ => pts_nil) (fun _ _ _ _ _ => pe_call GM hr rfl mM kM bM .nil pass0 (pa_cons (pe_fld (pv 0) rfl) (pa_cons (pv 2) pa_nil)))) pa_nil)))) (pss_one (ps_ret pe_bl)) pss_nil)
    (pss_cons (ps_set (i := 3) scOut.nd rfl (Or.inr rfl) (pe_lst pa_nil))
    (pss_cons (ps_for PassesOwn.never rfl (pi_list (pv 1)) (pg_name (i := 2) scOut.nd rfl (Or.inl rfl)) (pss_one (ps_expr (pe_bm PySem.F.plainAttrs_list PySem.F.slot_list_extend PySem.F.type_list_extend mt_extend (pv 3) (pa_cons (pv 2) pa_nil)))))
    (pss_one (ps_ret (pe_callB (cr_all rfl) (by rfl) tA boot_all (pa_cons (pe_lc (own := [("number", 4), ("kind", 5)]) (g := gTup K 2 (gCons (gName 4) (gCons (gName 5) gNil))) (te := tOp rLeI (tBM K "list" (rCountI K) (tVar 3) (tCons (tVar 4) tNil)) (tFld K (tVar 5) "copies")) rfl scOut.nd
      (pi_enum (by rfl) tE (pa_cons (pe_fld (pv 0) rfl) pa_nil)) (blkOk_by (N := ["locker", "hoists", "hoist", "flags", "number", "kind"]) (sc := defScope sIsOutOf) (by decide +kernel))
      (fun _ _ _ _ _ => pg_tup rfl (pgs_cons (pg_name (i := 4) scOut.nd rfl (Or.inl rfl) (hf := Or.inr rfl)) (pgs_cons (pg_name (i := 5) scOut.nd rfl (Or.inl rfl) (hf := Or.inr rfl)) pgs_nil))) (fun _ _ _ _ _ => pts_nil)
      (fun _ _ _ _ _ => pe_cmpR op_le (pe_bm PySem.F.plainAttrs_list PySem.F.slot_list_count PySem.F.type_list_count mt_countI (pv 3) (pa_cons (pv 4) pa_nil)) (pe_fld (pv 5) rfl) (nomark _))) pa_nil)))))), ?_⟩
  have hq : qs.length = hs.length := by have := pts.len; rw [List.length_map] at this; exact this
  refine ⟨_, rfl, p, rfl, ⟨_, SqL.of hp⟩, fun D hD => lc_list (K := K) (a := p) (xs := qs.map V.ref) (FInv H D fun i y ns => ns = [] ∧ y = .bl (rowMeansI (l.kinds.map KdA.m) (hs.getD i []))) (FInv.zero hD)
    (fun i H' _ f => SqL.of (f.same _ _ hp)) (fun i y H' hi f => ?_) (fun H' f => ?_)⟩
  · obtain ⟨q, fs, rfl, hf, hqq⟩ := pts.at' hi
    have hil := (List.getElem?_eq_some_iff.mp hf).1
    have L' := hL.same f.same
    refine ⟨rfl, yes_if ⟨_, rfl, l.a, CL, l.dx, _, _, rfl, lk_a L', TL.c, TL.nKinds, lkF_kinds l, _, rfl, l.kl, q, l.kinds, fs, rfl, lk_kl L', lk_ks L', SqL.of (f.same _ _ hqq), ?_, fun H3 s3 => ?_⟩⟩
    · have := h100 fs (List.mem_of_getElem? hf)
      omega
    · refine f.step hD (by omega) s3 ⟨rfl, ?_⟩ LiesL.nil (by simp)
      rw [getD_at hf]
  · obtain ⟨ys, s1, hd1, hl1, fl⟩ := f.end
    rw [List.length_map] at hl1
    have ey : ys = (hs.map (rowMeansI (l.kinds.map KdA.m))).map V.bl := by
      rw [List.map_map]
      refine fill_map (by omega) fun i y x h1 h2 => ?_
      obtain ⟨ns, ⟨_, e⟩, _⟩ := fl i y h1
      rw [e, getD_at h2]
      rfl
    refine ⟨D, _, rfl, by rw [← ey]; exact SqL.of hd1, _, rfl, ?_⟩
    have q := k
    unfold outI at q
    rw [List.length_map] at q
    rw [List.all_map]
    show if (!(hs.all (rowMeansI (l.kinds.map KdA.m)))) = true then _ else _
    refine ite2 (fun hc => ?_) (fun hc => ?_)
    · have hc : (hs.all (rowMeansI (l.kinds.map KdA.m))) = false := by simpa using hc
      rw [hc, Bool.false_and] at q
      exact q H' s1
    · have hc : (hs.all (rowMeansI (l.kinds.map KdA.m))) = true := by simpa using hc
      rw [hc, Bool.true_and] at q
      refine ⟨Nat.zero_le _, fun a ha => ?_⟩
      have hp1 := s1 _ _ hp
      have pts1 := pts.same s1
      refine ⟨_, rfl, p, rfl, ⟨_, SqL.of ((same_upd ha) _ _ hp1)⟩, for_list (K := K) (a := p) (xs := qs.map V.ref) (fun i σ H2 => ∃ v, σ = [some (.ref l.a), some (.ref p), v, some (.ref a), none, none] ∧ Same H' H2 ∧ H2 a = some (.lst (iv (nv ((hs.take i).flatten))))) ⟨none, rfl, same_upd ha, upd_same⟩
        (fun i σ H2 _ ⟨_, _, s2, _⟩ => SqL.of (s2 _ _ hp1)) ?_ ?_⟩
      · rintro i y σ H2 hi ⟨v, rfl, s2, ha2⟩
        obtain ⟨q', fs, rfl, hf, hqq⟩ := pts1.at' hi
        have hil := (List.getElem?_eq_some_iff.mp hf).1
        have hf100 := h100 fs (List.mem_of_getElem? hf)
        have hfl := flat_le h100 i
        refine ⟨_, rfl, .inl ⟨rfl, _, SqL.of ha2⟩, _, rfl, a, q', _, _, rfl, rfl, ha2, s2 _ _ hqq, ?_, _, rfl, same_upd2 s2 ha, ?_⟩
        · rw [iv_len, iv_len, nv_len, nv_len]
          exact Nat.le_of_lt (line_ge (by omega))
        · rw [upd_same, take_snoc hf, List.flatten_append]
          unfold iv nv
          simp
      · rintro σ H2 ⟨v, rfl, s2, ha2⟩
        rw [show (qs.map V.ref).length = hs.length by rw [List.length_map]; exact hq, List.take_length] at ha2
        have s12 := s1.trans s2
        have L2' := hL.same s12
        refine ⟨_, rfl, l.a, CL, l.dx, _, _, rfl, lk_a L2', TL.c, TL.nKinds, lkF_kinds l, l.kl, _, rfl, SqL.of (lk_kl L2'), fun D2 hD2 => lc_enum (K := K) (a := l.kl) (xs := l.kinds.map fun k => V.ref k.a) (FInv H2 D2 fun i y ns => ns = [] ∧ y = .bl (fewI (l.kinds.map KdA.m) hs.flatten i)) (FInv.zero hD2)
          (fun i H3 _ f => SqL.of (f.same _ _ (lk_kl L2'))) (fun i y Tt H3 hi f hT => ?_) (fun H3 f => ?_)⟩
        · obtain ⟨z, hz, rfl⟩ := getK hi
          have hil := (List.getElem?_eq_some_iff.mp hz).1
          have s3 : Same H3 (upd H3 Tt (.tup [.int (i : Nat), .ref z.a])) := same_upd hT
          have s4 := f.same.trans s3
          refine ⟨Tt, _, rfl, SqT.of upd_same, rfl, _, _, rfl, _, _, rfl, rfl, rfl, yes_if ?_⟩
          refine ⟨_, rfl, .inl ⟨rfl, _, SqL.of (s4 _ _ ha2)⟩, _, rfl, a, nv hs.flatten, (i : Int), rfl, rfl, SqL.of (s4 _ _ ha2), _, rfl, z.a, CK, z.dx, _, _, rfl, kd_at ((ks_at (lk_ks L2') (List.mem_of_getElem? hz)).same s4), T.c, T.nCopies, kdF_copies z, _, _, rfl, rfl, ?_⟩
          refine f.step hD2 (by omega) s3 ⟨rfl, ?_⟩ LiesL.nil (by simp)
          show V.bl (decide ((((nv hs.flatten).count (i : Int) : Nat) : Int) ≤ z.m.copies)) = _
          unfold fewI
          rw [count_nv, getD_map hz]
        · obtain ⟨ys2, s3, hd3, hl3, fl3⟩ := f.end
          rw [List.length_map] at hl3
          have ey2 : ys2 = ((List.range l.kinds.length).map (fewI (l.kinds.map KdA.m) hs.flatten)).map V.bl := by
            rw [List.map_map]
            refine fill_map (by rw [hl3, List.length_range]) fun i y x h1 h2 => ?_
            obtain ⟨ns, ⟨_, e⟩, _⟩ := fl3 i y h1
            rw [e, range_at h2]
            rfl
          refine ⟨D2, _, rfl, by rw [← ey2]; exact SqL.of hd3, ?_⟩
          rw [List.all_map]
          exact q H3 (s12.trans s3)
/-! ### read_showing -/
def showI (ms : List KdM) (ns : List Nat) : Option (List (List Nat)) := match hoistsI (nv ns) with
  | none => none
  | some L => if outI ms (L.map fun l => l.map Int.toNat) = true then some (L.map fun l => l.map Int.toNat) else none
theorem hoGo_nv (ns : List Nat) : ∀ (k pl : Nat) (x : List (List Int) × Nat), hoGo (nv ns) k pl = some x → ∃ hs : List (List Nat), x.1 = hs.map nv ∧ hs.length = k ∧ ∀ h ∈ hs, h.length ≤ 8
  | 0, pl, x, h => by
    have := Option.some.inj h
    subst this
    exact ⟨[], rfl, rfl, by simp⟩
  | k + 1, pl, x, h => by
    unfold hoGo at h
    cases ec : countI (nv ns) pl 8 with
    | none => rw [ec] at h; cases h
    | some c =>
      rw [ec] at h
      dsimp only at h
      cases eg : hoGo (nv ns) k (pl + 1 + c.toNat) with
      | none => rw [eg] at h; cases h
      | some y =>
        rw [eg] at h
        have := Option.some.inj h
        subst this
        obtain ⟨hs, e1, e2, e3⟩ := hoGo_nv ns k _ y eg
        obtain ⟨c1, c8, _, _⟩ := count_pos ec
        refine ⟨(ns.drop (pl + 1)).take c.toNat :: hs, ?_, by rw [List.length_cons, e2], fun z hz => ?_⟩
        · dsimp only
          rw [e1, List.map_cons]
          congr 1
          unfold nv
          rw [List.map_take, List.map_drop]
        · rcases List.mem_cons.mp hz with rfl | hz
          · rw [List.length_take]
            omega
          · exact e3 z hz
theorem toNat_nv (l : List Nat) : (nv l).map Int.toNat = l := by
  unfold nv
  rw [List.map_map]
  exact (List.map_congr_left (g := id) fun x _ => by simp).trans (List.map_id l)
theorem hoists_nv {ns : List Nat} {L : List (List Int)} (h : hoistsI (nv ns) = some L) : ∃ hs : List (List Nat), L = hs.map nv ∧ hs.length ≤ 4 ∧ (∀ h ∈ hs, h.length ≤ 8) ∧ (L.map fun l => l.map Int.toNat) = hs := by
  unfold hoistsI at h
  cases ec : countI (nv ns) 0 4 with
  | none => rw [ec] at h; cases h
  | some c =>
    rw [ec] at h
    dsimp only at h
    obtain ⟨c1, c4, _, _⟩ := count_pos ec
    cases eg : hoGo (nv ns) c.toNat 1 with
    | none => rw [eg] at h; cases h
    | some x =>
      rw [eg] at h
      dsimp only at h
      split at h
      · have := Option.some.inj h
        subst this
        obtain ⟨hs, e1, e2, e3⟩ := hoGo_nv ns _ _ x eg
        refine ⟨hs, e1, by omega, e3, ?_⟩
        rw [e1, List.map_map]
        exact (List.map_congr_left (g := id) fun l _ => toNat_nv l).trans (List.map_id hs)
      · cases h
def spShow (K : PySem.W.Frag) (CL CK CS : Addr) : Sp := fun vs H Q E => ∃ (l : LkA) (a : Addr) (ns : List Nat), vs = [.ref l.a, .ref a] ∧ LiesL H (lkN CL CK l) ∧ l.kinds.length ≤ 100000 ∧ SqL K H a (iv (nv ns)) ∧
  (∀ hs, showI (l.kinds.map KdA.m) ns = some hs → ∀ H' p qs, Same H H' → PtsAt2 H H' (hs.map nv) p qs → hs.length ≤ 4 → (∀ h ∈ hs, h.length ≤ 8) → Q (.ref p) H') ∧ (showI (l.kinds.map KdA.m) ns = none → No E CS H)
theorem scShow : FnScope ["locker", "numbers", "hoists"] ["locker", "numbers"] (defScope sReadShowing) := ⟨rfl, rfl, rfl, by decide +kernel, rfl, by decide +kernel, by decide +kernel⟩
theorem ok_show {f : Addr} {fd : FuncData} (F : Fun K "read_showing" "read_showing" sReadShowing f fd) (X : XpT K mg "NoShowing" CS N) (dH : Dn P w K mg base (CXf P w) 2 "read_hoists" ["numbers"] (spHoists K CS)) (dO : Dn P w K mg base CX0 3 "is_out_of" ["locker", "hoists"] (spOut CL CK)) :
    FnOk P w K mg base (CXf P w) 4 f fd ["locker", "numbers"] (spShow K CL CK CS) := by
  obtain ⟨fH, fdH, GH, mH, kH, bH⟩ := dH
  obtain ⟨fO, fdO, GO, mO, kO, bO⟩ := dO
  refine F.okx scShow (fun vs H Q E h => (by obtain ⟨l, a, ns, rfl, _⟩ := h; rfl)) (fun cdv A outer s H vs Q E hr h => ?_)
  obtain ⟨l, a, ns, rfl, hL, hkl, hP, k1, k2⟩ := h
  have hr2 : Room 2 _ := hr.mono (by decide)
  refine ⟨_, pss_cons (ps_set (i := 2) scShow.nd rfl (Or.inl rfl) (pe_call GH hr2 rfl mH kH bH .nil passes_fly (pa_cons (pv 1) pa_nil)))
    (pss_cons (ps_if (pt_not (pt_val (pe_call GO hr rfl mO kO bO .nil pass0 (pa_cons (pv 0) (pa_cons (pv 2) pa_nil))))) (pss_one (ps_raise hr.hd X.c (pe_mkx0 X.c X.ini X.keep rfl X.mC))) pss_nil)
    (pss_one (ps_ret (pv 2)))), ?_⟩
  refine ⟨_, rfl, a, nv ns, rfl, hP, fun L eL H1 p qs s1 hp => ?_, fun z => k2 (by unfold showI; rw [z])⟩
  obtain ⟨hs, rfl, h4, h8, et⟩ := hoists_nv eL
  have es : showI (l.kinds.map KdA.m) ns = if outI (l.kinds.map KdA.m) hs = true then some hs else none := by
    unfold showI
    rw [eL]
    dsimp only
    rw [et]
  obtain ⟨hp0, hp1, pts, fr⟩ := id hp
  refine ⟨_, rfl, _, rfl, l, p, qs, hs, rfl, hL.same s1, hkl, hp1, pts, by omega, fun h hh => Nat.le_trans (h8 h hh) (by decide), fun H2 s2 => ⟨_, rfl, ite2 (fun hc => ?_) (fun hc => ?_)⟩⟩
  · have hc : ¬ outI (l.kinds.map KdA.m) hs = true := by simpa using hc
    exact raise0 ((k2 (by rw [es, if_neg hc])).go (s1.trans s2))
  · have hc : outI (l.kinds.map KdA.m) hs = true := by simpa using hc
    exact ⟨_, rfl, k1 hs (by rw [es, if_pos hc]) H2 p qs (s1.trans s2) ⟨hp0, s2 _ _ hp1, pts.same s2, fr⟩ h4 h8⟩
end
end HD
end
section
set_option Elab.async false
set_option linter.all false
set_option maxRecDepth 100000
set_option maxHeartbeats 2000000
namespace HD
open PySem PySem.Spec PyProof.Rows L2
open PySem.W (Codec)
/-! ### classes_of, cell_behind, cells_seen -/
def classAt (light : Int) (c : Nat) : Int := light / 2 ^ (4 * c) % 16
def classesI (light : Int) : List Int := (List.range 16).map (classAt light)
def spClasses : Sp := fun vs H Q _ => ∃ light : Int, vs = [.int light] ∧ ∀ H' p, New H H' p (.lst (iv (classesI light))) → Q (.ref p) H'
def bhI (c : Nat) : Nat := c - c % 4 + 4 - 1 - c % 4
def spBeh : Sp := fun vs H Q _ => ∃ c : Nat, vs = [.int (c : Nat)] ∧ Q (.int (bhI c : Nat)) H
def seenI (look classes : List Int) (side : Nat) : List Int := if side = 1 then (List.range 16).map (fun c => classes.getD (look.getD (bhI c) 0).toNat 0) else look.map fun x => classes.getD x.toNat 0
def lookOk (look : List Int) : Prop := look.length = 16 ∧ ∀ x ∈ look, 0 ≤ x ∧ x < 16
def spCells (K : PySem.W.Frag) : Sp := fun vs H Q _ => ∃ (al ac : Addr) (look classes : List Int) (side : Nat), vs = [.ref al, .ref ac, .int (side : Nat)] ∧ SqL K H al (iv look) ∧ lookOk look ∧ SqL K H ac (iv classes) ∧ classes.length = 16 ∧ ∀ H' p, New H H' p (.lst (iv (seenI look classes side))) → Q (.ref p) H'
theorem fill_int {D : Addr} {ys : List V} {H : Hp} {α : Type} {L : List α} {g : α → Int} (hd : H D = some (.lst ys)) (e : ys = L.map fun x => V.int (g x)) : H D = some (.lst (iv (L.map g))) := by
  rw [hd, e]
  unfold iv
  rw [List.map_map]
  rfl
theorem iv_at {l : List Int} {i : Nat} (h : i < l.length) : (iv l)[i]? = some (.int (l.getD i 0)) := by
  unfold iv
  rw [List.getElem?_map, List.getD_eq_getElem?_getD, List.getElem?_eq_getElem h]
  rfl
theorem getD_mem {l : List Int} {i : Nat} (h : i < l.length) : l.getD i 0 ∈ l := by
  rw [List.getD_eq_getElem?_getD, List.getElem?_eq_getElem h]
  exact List.getElem_mem h
section
variable {P : Program} {w : World} {K : PySem.W.Frag} {mg : Str → Option Value} {base : Heap} {CK CL CS N : Addr} {C : Cs}
theorem scClasses : FnScope ["light", "colour"] ["light"] (defScope sClassesOf) := ⟨rfl, rfl, rfl, by decide +kernel, rfl, by decide +kernel, by decide +kernel⟩
theorem ok_classes {f : Addr} {fd : FuncData} (F : Fun K "classes_of" "classes_of" sClassesOf f fd) (tR : mg "range" = none) (cC : Cn mg "COLOURS" (.int 16)) : FnOk P w K mg base CX0 1 f fd ["light"] spClasses := by
  obtain ⟨uC, mC, rC⟩ := cC
  refine F.ok scClasses (fun vs H Q E h => (by obtain ⟨l, rfl, _⟩ := h; rfl)) (fun cdv A outer s H vs Q E hr h => ?_)
  obtain ⟨light, rfl, k⟩ := h
  refine ⟨_, pss_one (ps_ret (pe_lc (own := [("colour", 1)]) rfl scClasses.nd (pi_range1 (by rfl) tR (pa_cons (pe_glob (by rfl) mC rC) pa_nil)) (blkOk_by (N := ["light", "colour"]) (sc := defScope sClassesOf) (by decide +kernel))
    (fun _ _ _ _ _ => pg_name (i := 1) scClasses.nd rfl (Or.inl rfl)) (fun _ _ _ _ _ => pts_nil) (fun _ _ _ _ _ => pe_op op_mod (pe_op op_shr (pv 0) (pe_op op_mul pe_int (pv 1))) pe_int))), ?_⟩
  refine ⟨16, rfl, by decide, by decide, fun D hD => lc_range (lo := 0) (n := 16) (FInv H D fun i y ns => ns = [] ∧ y = .int (classAt light i)) (FInv.zero hD) (fun i H' hi f => ?_) (fun H' f => ?_)⟩
  · refine ⟨rfl, yes_if ⟨_, rfl, _, rfl, _, _, rfl, rfl, .inl (by decide), _, _, rfl, rfl, ?_, _, _, rfl, rfl, (by show (0 : Int) < 16; decide), ?_⟩⟩
    · show (0 : Int) ≤ 4 * (0 + (i : Int))
      omega
    · refine f.step hD (by omega) (Same.refl H') ⟨rfl, ?_⟩ LiesL.nil (by simp)
      show V.int (light / 2 ^ (4 * (0 + (i : Int))).toNat % 16) = _
      rw [show (4 * (0 + (i : Int))).toNat = 4 * i by omega]
      rfl
  · obtain ⟨ys, s1, hd1, hl1, fl⟩ := f.end
    refine k H' D ⟨s1, hD, fill_int hd1 (fill_map (by rw [hl1]; rfl) fun i y x h1 h2 => ?_)⟩
    obtain ⟨ns, ⟨_, e⟩, _⟩ := fl i y h1
    rw [e, range_at h2]
theorem scBeh : FnScope ["cell"] ["cell"] (defScope sCellBehind) := ⟨rfl, rfl, rfl, by decide +kernel, rfl, by decide +kernel, by decide +kernel⟩
theorem ok_beh {f : Addr} {fd : FuncData} (F : Fun K "cell_behind" "cell_behind" sCellBehind f fd) (cR : Cn mg "ROW" (.int 4)) : FnOk P w K mg base CX0 1 f fd ["cell"] spBeh := by
  obtain ⟨uC, mC, rC⟩ := cR
  refine F.ok scBeh (fun vs H Q E h => (by obtain ⟨l, rfl, _⟩ := h; rfl)) (fun cdv A outer s H vs Q E hr h => ?_)
  obtain ⟨c, rfl, k⟩ := h
  refine ⟨_, pss_one (ps_ret (pe_op op_sub (pe_op op_sub (pe_op op_add (pe_op op_sub (pv 0) (pe_op op_mod (pv 0) (pe_glob (by rfl) mC rC))) (pe_glob (by rfl) mC rC)) pe_int) (pe_op op_mod (pv 0) (pe_glob (by rfl) mC rC)))), ?_⟩
  refine ⟨_, rfl, _, rfl, _, _, rfl, rfl, (by show (0 : Int) < 4; decide), _, _, rfl, rfl, _, _, rfl, rfl, _, _, rfl, rfl, _, rfl, _, _, rfl, rfl, (by show (0 : Int) < 4; decide), _, _, rfl, rfl, ?_⟩
  have e : ((c : Int) - (c : Int) % 4 + 4 - 1 - (c : Int) % 4) = ((bhI c : Nat) : Int) := by unfold bhI; omega
  show Q (V.int ((c : Int) - (c : Int) % 4 + 4 - 1 - (c : Int) % 4)) H
  rw [e]
  exact k
theorem bh_lt {c : Nat} (h : c < 16) : bhI c < 16 := by unfold bhI; omega
theorem scCells : FnScope ["look", "classes", "side", "cell", "colour"] ["look", "classes", "side"] (defScope sCellsSeen) := ⟨rfl, rfl, rfl, by decide +kernel, rfl, by decide +kernel, by decide +kernel⟩
theorem ok_cells {f : Addr} {fd : FuncData} (F : Fun K "cells_seen" "cells_seen" sCellsSeen f fd) (tR : mg "range" = none) (cB : Cn mg "BEHIND" (.int 1)) (cC : Cn mg "CELLS" (.int 16)) (dB : Dn P w K mg base CX0 1 "cell_behind" ["cell"] spBeh) : FnOk P w K mg base CX0 2 f fd ["look", "classes", "side"] (spCells K) := by
  obtain ⟨uB, mB, rB⟩ := cB
  obtain ⟨uC, mC, rC⟩ := cC
  obtain ⟨fB, fdB, GB, mBh, kB, bB⟩ := dB
  refine F.ok scCells (fun vs H Q E h => (by obtain ⟨a, b, c, d, e, rfl, _⟩ := h; rfl)) (fun cdv A outer s H vs Q E hr h => ?_)
  obtain ⟨al, ac, look, classes, side, rfl, hL, hlk, hC, hc16, k⟩ := h
  refine ⟨_, pss_cons (ps_if (pt_cmpR op_eq (pv 2) (pe_glob (by rfl) mB rB) (nomark _)) (pss_one (ps_ret (pe_lc (own := [("cell", 3)]) (te := tOp (rIxL K) (tVar 1) (tOp (rIxL K) (tVar 0) (tCall spBeh [] E0 (tCons (tVar 3) tNil)))) rfl scCells.nd (pi_range1 (by rfl) tR (pa_cons (pe_glob (by rfl) mC rC) pa_nil)) (blkOk_by (N := ["look", "classes", "side", "cell", "colour"]) (sc := defScope sCellsSeen) (by decide +kernel))
      (fun _ _ _ _ _ => pg_name (i := 3) scCells.nd rfl (Or.inl rfl)) (fun _ _ _ _ _ => pts_nil) (fun _ _ _ _ _ => pe_ix ix_list (pv 1) (pe_ix ix_list (pv 0) (pe_call GB hr rfl mBh kB bB .nil pass0 (pa_cons (pv 3) pa_nil)) (fun _ _ => rfl)) (fun _ _ => rfl))))) pss_nil)
    (pss_one (ps_ret (pe_lc (own := [("colour", 4)]) (te := tOp (rIxL K) (tVar 1) (tVar 4)) rfl scCells.nd (pi_list (pv 0)) (blkOk_by (N := ["look", "classes", "side", "cell", "colour"]) (sc := defScope sCellsSeen) (by decide +kernel))
      (fun _ _ _ _ _ => pg_name (i := 4) scCells.nd rfl (Or.inl rfl)) (fun _ _ _ _ _ => pts_nil) (fun _ _ _ _ _ => pe_ix ix_list (pv 1) (pv 4) (fun _ _ => rfl))))), ?_⟩
  have q := k
  unfold seenI at q
  refine ⟨_, rfl, rfl, _, rfl, ?_⟩
  rw [show V.int 1 = V.int ((1 : Nat) : Int) from rfl, dec_int]
  have hix : ∀ x, 0 ≤ x → x < 16 → atI (iv classes) x = some (.int (classes.getD x.toNat 0)) := fun x h0 h1 => by
    obtain ⟨n, rfl⟩ : ∃ n : Nat, x = (n : Int) := ⟨x.toNat, by omega⟩
    exact atI_nat (iv_at (by omega))
  refine ite2 (fun hc => ?_) (fun hc => ?_)
  · have hc : side = 1 := by simpa using hc
    rw [if_pos hc] at q
    refine ⟨16, rfl, by decide, by decide, fun D hD => lc_range (lo := 0) (n := 16) (FInv H D fun i y ns => ns = [] ∧ y = .int (classes.getD (look.getD (bhI i) 0).toNat 0)) (FInv.zero hD) (fun i H' hi f => ?_) (fun H' f => ?_)⟩
    · have hb := bh_lt hi
      obtain ⟨g0, g1⟩ := hlk.2 _ (getD_mem (l := look) (i := bhI i) (by rw [hlk.1]; exact hb))
      refine ⟨rfl, yes_if ⟨_, rfl, _, rfl, _, rfl, i, ?_, ?_⟩⟩
      · show [V.int (0 + (i : Int))] ++ [] = [V.int (i : Int)]
        rw [Int.zero_add]
        rfl
      · refine ⟨al, _, _, .int (look.getD (bhI i) 0), rfl, rfl, f.same.seq hL, atI_nat (iv_at (by rw [hlk.1]; exact hb)), ac, _, _, _, rfl, rfl, f.same.seq hC, hix _ g0 g1, ?_⟩
        exact f.step hD (by omega) (Same.refl H') ⟨rfl, rfl⟩ LiesL.nil (by simp)
    · obtain ⟨ys, s1, hd1, hl1, fl⟩ := f.end
      refine q H' D ⟨s1, hD, fill_int hd1 (fill_map (by rw [hl1]; rfl) fun i y x h1 h2 => ?_)⟩
      obtain ⟨ns, ⟨_, e⟩, _⟩ := fl i y h1
      rw [e, range_at h2]
  · have hc : ¬ side = 1 := by simpa using hc
    rw [if_neg hc] at q
    refine ⟨_, rfl, al, rfl, ⟨_, hL⟩, fun D hD => lc_list (K := K) (a := al) (xs := iv look) (FInv H D fun i y ns => ns = [] ∧ ∃ x, look[i]? = some x ∧ y = .int (classes.getD x.toNat 0)) (FInv.zero hD) (fun i H' _ f => f.same.seq hL) (fun i y H' hi f => ?_) (fun H' f => ?_)⟩
    · obtain ⟨z, hz, rfl⟩ := getI hi
      have hil := (List.getElem?_eq_some_iff.mp hz).1
      have h16 := hlk.1
      obtain ⟨g0, g1⟩ := hlk.2 z (List.mem_of_getElem? hz)
      refine ⟨rfl, yes_if ⟨_, rfl, _, rfl, ac, _, _, _, rfl, rfl, f.same.seq hC, hix z g0 g1, ?_⟩⟩
      exact f.step hD (by omega) (Same.refl H') ⟨rfl, z, hz, rfl⟩ LiesL.nil (by simp)
    · obtain ⟨ys, s1, hd1, hl1, fl⟩ := f.end
      rw [iv_len] at hl1
      refine q H' D ⟨s1, hD, fill_int hd1 (fill_map hl1 fun i y x h1 h2 => ?_)⟩
      obtain ⟨ns, ⟨_, z, e1, e⟩, _⟩ := fl i y h1
      rw [h2] at e1
      rw [e, ← Option.some.inj e1]
/-! ### sighting_of -/
def spSight (K : PySem.W.Frag) (C : Cs) (CK : Addr) : Sp := fun vs H Q _ => ∃ (k : KdA) (ac : Addr) (classes : List Int) (side : Nat), vs = [.ref k.a, .ref ac, .int (side : Nat)] ∧ LiesL H (kdN CK k) ∧ lookOk k.m.look ∧ SqL K H ac (iv classes) ∧ classes.length = 16 ∧
  ∀ H' s, Same H H' → s.shape = k.m.shape → s.cells = seenI k.m.look classes side → LiesL H' (sgN C s) → (∀ x ∈ sgN C s, H x.1 = none) → Q (.ref s.a) H'
theorem scSight : FnScope ["kind", "classes", "side"] ["kind", "classes", "side"] (defScope sSightingOf) := ⟨rfl, rfl, rfl, by decide +kernel, rfl, by decide +kernel, by decide +kernel⟩
theorem ok_sight {f : Addr} {fd : FuncData} (F : Fun K "sighting_of" "sighting_of" sSightingOf f fd) (T : KdT K CK) (dS : MkD P w K mg base "Sighting" C.S ["shape", "cells"]) (dC : Dn P w K mg base CX0 2 "cells_seen" ["look", "classes", "side"] (spCells K)) :
    FnOk P w K mg base CX0 3 f fd ["kind", "classes", "side"] (spSight K C CK) := by
  obtain ⟨fS, fdS, MS, GS, mS, bS⟩ := dS
  obtain ⟨fC, fdC, GC, mC, kC, bC⟩ := dC
  refine F.ok scSight (fun vs H Q E h => (by obtain ⟨a, b, c, d, rfl, _⟩ := h; rfl)) (fun cdv A outer s H vs Q E hr h => ?_)
  obtain ⟨z, ac, classes, side, rfl, hz, hlk, hC, hc16, k⟩ := h
  have hr2 : Room 2 _ := hr.mono (by decide)
  refine ⟨_, pss_one (ps_ret (pe_make MS GS hr2 rfl mS bS .nil pass0 (pa_cons (pe_fld (pv 0) rfl) (pa_cons (pe_call GC hr rfl mC kC bC .nil pass0 (pa_cons (pe_fld (pv 0) rfl) (pa_cons (pv 1) (pa_cons (pv 2) pa_nil)))) pa_nil)))), ?_⟩
  refine ⟨_, rfl, z.a, CK, z.dx, _, _, rfl, kd_at hz, T.c, T.nShape, kdF_shape z, _, rfl, z.a, CK, z.dx, _, _, rfl, kd_at hz, T.c, T.nLook, kdF_look z, _, rfl, _, rfl, z.lk, ac, z.m.look, classes, side, rfl, SqL.of (lk_at hz), hlk, hC, hc16, fun H1 pc hN => ?_⟩
  refine mk_step rfl fun x dx H2 hx hdx hne e2 s2 => ?_
  refine k H2 ⟨x, dx, pc, z.m.shape, _⟩ (hN.1.trans s2) rfl rfl (fun y hy => ?_) fun y hy => ?_
  · simp only [sgN, List.mem_cons, List.not_mem_nil, or_false] at hy
    rcases hy with rfl | rfl
    · exact e2
    · exact s2 _ _ hN.2.2
  · simp only [sgN, List.mem_cons, List.not_mem_nil, or_false] at hy
    rcases hy with rfl | rfl
    · exact hN.1.free hx
    · exact hN.2.1
/-! ### glimpse_of -/
def sgM (ms : List KdM) (classes : List Int) (side : Nat) (f : Nat) : Nat × List Int := ((ms.getD f zeroK).shape, seenI (ms.getD f zeroK).look classes side)
def glMk (ms : List KdM) (classes : List Int) (side : Nat) (fs : List Nat) : GlM := ⟨false, false, fs.map (sgM ms classes side)⟩
def spGlimpse (K : PySem.W.Frag) (C : Cs) (CL CK : Addr) : Sp := fun vs H Q _ => ∃ (l : LkA) (ah ac : Addr) (fs : List Nat) (classes : List Int) (side : Nat), vs = [.ref l.a, .ref ah, .ref ac, .int (side : Nat)] ∧ LiesL H (lkN CL CK l) ∧ (∀ k ∈ l.kinds, lookOk k.m.look) ∧ SqL K H ah (iv (nv fs)) ∧ fs.length ≤ 100 ∧ (∀ f ∈ fs, f < l.kinds.length) ∧ SqL K H ac (iv classes) ∧ classes.length = 16 ∧
  ∀ H' g, Same H H' → g.m = glMk (l.kinds.map KdA.m) classes side fs → LiesL H' (glN C g) → (∀ x ∈ glN C g, H x.1 = none) → Q (.ref g.a) H'
theorem scGlimpse : FnScope ["locker", "hoist", "classes", "side", "flag"] ["locker", "hoist", "classes", "side"] (defScope sGlimpseOf) := ⟨rfl, rfl, rfl, by decide +kernel, rfl, by decide +kernel, by decide +kernel⟩
theorem ok_glimpse {f : Addr} {fd : FuncData} (F : Fun K "glimpse_of" "glimpse_of" sGlimpseOf f fd) (TL : LkT K CL) (dG : MkD P w K mg base "Glimpse" C.G ["above", "below", "flags"]) (dS : Dn P w K mg base CX0 3 "sighting_of" ["kind", "classes", "side"] (spSight K C CK)) :
    FnOk P w K mg base CX0 4 f fd ["locker", "hoist", "classes", "side"] (spGlimpse K C CL CK) := by
  obtain ⟨fG, fdG, MG, GG, mG, bG⟩ := dG
  obtain ⟨fS, fdS, GS, mS, kS, bS⟩ := dS
  refine F.ok scGlimpse (fun vs H Q E h => (by obtain ⟨a, b, c, d, e, g, rfl, _⟩ := h; rfl)) (fun cdv A outer s H vs Q E hr h => ?_)
  obtain ⟨l, ah, ac, fs, classes, side, rfl, hL, hlk, hA, hfl, hlt, hC, hc16, k⟩ := h
  have hr2 : Room 2 _ := hr.mono (by decide)
  refine ⟨_, pss_one (ps_ret (pe_make MG GG hr2 rfl mG bG .nil pass0 (pa_cons pe_bl (pa_cons pe_bl (pa_cons (pe_lc (own := [("flag", 4)]) (te := tCall (spSight K C CK) [] E0 (tCons (tOp (rIxL K) (tFld K (tVar 0) "kinds") (tVar 4)) (tCons (tVar 2) (tCons (tVar 3) tNil)))) rfl scGlimpse.nd (pi_list (pv 1)) (blkOk_by (N := ["locker", "hoist", "classes", "side", "flag"]) (sc := defScope sGlimpseOf) (by decide +kernel))
      (fun _ _ _ _ _ => pg_name (i := 4) scGlimpse.nd rfl (Or.inl rfl)) (fun _ _ _ _ _ => pts_nil) (fun _ _ _ _ _ => pe_call GS hr rfl mS kS bS .nil pass0 (pa_cons (pe_ix ix_list (pe_fld (pv 0) rfl) (pv 4) (fun _ _ => rfl)) (pa_cons (pv 2) (pa_cons (pv 3) pa_nil))))) pa_nil))))), ?_⟩
  refine ⟨_, rfl, ah, rfl, ⟨_, hA⟩, fun D hD => lc_list (K := K) (a := ah) (xs := iv (nv fs)) (FInv H D fun i y ns => ∃ b : SgA, (∀ f, fs[i]? = some f → b.m = sgM (l.kinds.map KdA.m) classes side f) ∧ y = .ref b.a ∧ ((∀ x ∈ ns, H x.1 = none) ∧ ns = sgN C b)) (FInv.zero hD) (fun i H' _ f => f.same.seq hA) (fun i y H' hi f => ?_) (fun H' f => ?_)⟩
  · obtain ⟨z, hz, rfl⟩ := getN hi
    have hil := (List.getElem?_eq_some_iff.mp hz).1
    have L' := hL.same f.same
    obtain ⟨b, hb⟩ : ∃ b, l.kinds[z]? = some b := ⟨_, List.getElem?_eq_getElem (hlt z (List.mem_of_getElem? hz))⟩
    have hbm := List.mem_of_getElem? hb
    refine ⟨rfl, yes_if ⟨_, rfl, l.a, CL, l.dx, _, _, rfl, lk_a L', TL.c, TL.nKinds, lkF_kinds l, _, rfl, l.kl, _, _, .ref b.a, rfl, rfl, SqL.of (lk_kl L'), atI_nat (by rw [List.getElem?_map, hb]; rfl), _, rfl, _, rfl, b, ac, classes, side, rfl, ks_at (lk_ks L') hbm, hlk b hbm, f.same.seq hC, hc16, fun H3 sg s3 e1 e2 ls fr => ?_⟩⟩
    refine f.step hD (by omega) s3 ⟨sg, fun f' hf' => ?_, rfl, fun x hx => f.same.free (fr x hx), rfl⟩ ls fun x hx e => f.has (by rw [← e]; exact fr x hx)
    rw [hz] at hf'
    rw [← Option.some.inj hf']
    unfold sgM SgA.m
    rw [getD_map hb, e1, e2]
  · obtain ⟨ys, s1, hd1, hl1, fl⟩ := f.end
    rw [iv_len, nv_len] at hl1
    obtain ⟨bs, e1, r1, l1⟩ := fill_list (v := fun b : SgA => V.ref b.a) (nd := sgN C) (R := fun i b => (∀ f, fs[i]? = some f → b.m = sgM (l.kinds.map KdA.m) classes side f) ∧ ∀ x ∈ sgN C b, H x.1 = none) fun i y h => by
      obtain ⟨ns, ⟨b, q1, q2, q3, q4⟩, q5⟩ := fl i y h
      exact ⟨ns, ⟨b, ⟨q1, by rw [← q4]; exact q3⟩, q2, q4⟩, q5⟩
    subst e1
    rw [List.length_map] at hl1
    refine mk_step rfl fun x dx H2 hx hdx hne e2 s2 => ?_
    have em : bs.map SgA.m = fs.map (sgM (l.kinds.map KdA.m) classes side) := by
      apply List.ext_getElem?
      intro i
      rw [List.getElem?_map, List.getElem?_map]
      cases e : bs[i]? with
      | some b =>
        have hi := (List.getElem?_eq_some_iff.mp e).1
        have hfi : fs[i]? = some fs[i] := List.getElem?_eq_getElem (by omega)
        rw [hfi]
        show some b.m = _
        rw [(r1 i b e).1 _ hfi]
        rfl
      | none =>
        have : bs.length ≤ i := List.getElem?_eq_none_iff.mp e
        rw [List.getElem?_eq_none (by omega)]
        rfl
    refine k H2 ⟨x, dx, D, false, false, bs⟩ (s1.trans s2) ?_ (fun y hy => ?_) fun y hy => ?_
    · unfold GlA.m glMk
      rw [em]
    · simp only [glN, List.mem_cons] at hy
      rcases hy with rfl | rfl | hy
      · exact e2
      · exact s2 _ _ hd1
      · obtain ⟨b, hb, hy⟩ := List.mem_flatMap.mp hy
        exact s2 _ _ (l1 b hb y hy)
    · simp only [glN, List.mem_cons] at hy
      rcases hy with rfl | rfl | hy
      · exact s1.free hx
      · exact hD
      · obtain ⟨b, hb, hy⟩ := List.mem_flatMap.mp hy
        obtain ⟨i, hi, e⟩ := List.getElem_of_mem hb
        exact (r1 i b (by rw [List.getElem?_eq_getElem hi, e])).2 y hy
/-! ### plate_seen -/
def spSeen (K : PySem.W.Frag) (C : Cs) (CL CK : Addr) : Sp := fun vs H Q _ => ∃ (l : LkA) (ph ac : Addr) (qs : List Addr) (hs : List (List Nat)) (classes : List Int) (side : Nat), vs = [.ref l.a, .ref ph, .ref ac, .int (side : Nat)] ∧ LiesL H (lkN CL CK l) ∧ (∀ k ∈ l.kinds, lookOk k.m.look) ∧ H ph = some (.lst (qs.map V.ref)) ∧ Pts H qs (hs.map nv) ∧ hs.length ≤ 4 ∧ (∀ h ∈ hs, h.length ≤ 8) ∧ (∀ h ∈ hs, ∀ f ∈ h, f < l.kinds.length) ∧ H ac = some (.lst (iv classes)) ∧ classes.length = 16 ∧
  ∀ H' p, Same H H' → p.m = ⟨side, classes, hs.map (glMk (l.kinds.map KdA.m) classes side)⟩ → LiesL H' (plN C p) → Q (.ref p.a) H'
theorem scSeen : FnScope ["locker", "hoists", "classes", "side", "hoist"] ["locker", "hoists", "classes", "side"] (defScope sPlateSeen) := ⟨rfl, rfl, rfl, by decide +kernel, rfl, by decide +kernel, by decide +kernel⟩
theorem ok_seen {f : Addr} {fd : FuncData} (F : Fun K "plate_seen" "plate_seen" sPlateSeen f fd) (dP : MkD P w K mg base "Plate" C.P ["side", "classes", "glimpses"]) (dG : Dn P w K mg base CX0 4 "glimpse_of" ["locker", "hoist", "classes", "side"] (spGlimpse K C CL CK)) :
    FnOk P w K mg base CX0 5 f fd ["locker", "hoists", "classes", "side"] (spSeen K C CL CK) := by
  obtain ⟨fP, fdP, MP, GP, mP, bP⟩ := dP
  obtain ⟨fG, fdG, GG, mG, kG, bG⟩ := dG
  refine F.ok scSeen (fun vs H Q E h => (by obtain ⟨a, b, c, d, e, g, i, rfl, _⟩ := h; rfl)) (fun cdv A outer s H vs Q E hr h => ?_)
  obtain ⟨l, ph, ac, qs, hs, classes, side, rfl, hL, hlk, hp, pts, h4, h8, hlt, hC, hc16, k⟩ := h
  have hr2 : Room 2 _ := hr.mono (by decide)
  refine ⟨_, pss_one (ps_ret (pe_make MP GP hr2 rfl mP bP .nil pass0 (pa_cons (pv 3) (pa_cons (pv 2) (pa_cons (pe_lc (own := [("hoist", 4)]) (te := tCall (spGlimpse K C CL CK) [] E0 (tCons (tVar 0) (tCons (tVar 4) (tCons (tVar 2) (tCons (tVar 3) tNil))))) rfl scSeen.nd (pi_list (pv 1)) (blkOk_by (N := ["locker", "hoists", "classes", "side", "hoist"]) (sc := defScope sPlateSeen) (by decide +kernel))
      (fun _ _ _ _ _ => pg_name (i := 4) scSeen.nd rfl (Or.inl rfl)) (fun _ _ _ _ _ => pts_nil) (fun _ _ _ _ _ => pe_call GG hr rfl mG kG bG .nil pass0 (pa_cons (pv 0) (pa_cons (pv 4) (pa_cons (pv 2) (pa_cons (pv 3) pa_nil)))))) pa_nil))))), ?_⟩
  have hq : qs.length = hs.length := by have := pts.len; rw [List.length_map] at this; exact this
  refine ⟨_, rfl, _, rfl, _, rfl, ph, rfl, ⟨_, SqL.of hp⟩, fun D hD => lc_list (K := K) (a := ph) (xs := qs.map V.ref) (FInv H D fun i y ns => ∃ b : GlA, (∀ h, hs[i]? = some h → b.m = glMk (l.kinds.map KdA.m) classes side h) ∧ y = .ref b.a ∧ ns = glN C b) (FInv.zero hD) (fun i H' _ f => SqL.of (f.same _ _ hp)) (fun i y H' hi f => ?_) (fun H' f => ?_)⟩
  · obtain ⟨q, fs, rfl, hf, hqq⟩ := pts.at' hi
    have hil := (List.getElem?_eq_some_iff.mp hf).1
    have hfm := List.mem_of_getElem? hf
    refine ⟨rfl, yes_if ⟨_, rfl, _, rfl, _, rfl, _, rfl, l, q, ac, fs, classes, side, rfl, hL.same f.same, hlk, SqL.of (f.same _ _ hqq), Nat.le_trans (h8 fs hfm) (by decide), hlt fs hfm, SqL.of (f.same _ _ hC), hc16, fun H3 gl s3 e1 ls fr => ?_⟩⟩
    refine f.step hD (by omega) s3 ⟨gl, fun h' hh' => ?_, rfl, rfl⟩ ls fun x hx e => f.has (by rw [← e]; exact fr x hx)
    rw [hf] at hh'
    rw [← Option.some.inj hh']
    exact e1
  · obtain ⟨ys, s1, hd1, hl1, fl⟩ := f.end
    rw [List.length_map] at hl1
    obtain ⟨bs, e1, r1, l1⟩ := fill_list (v := fun b : GlA => V.ref b.a) (nd := glN C) (R := fun i b => ∀ h, hs[i]? = some h → b.m = glMk (l.kinds.map KdA.m) classes side h) fl
    subst e1
    rw [List.length_map] at hl1
    refine mk_step rfl fun x dx H2 hx hdx hne e2 s2 => ?_
    have em : bs.map GlA.m = hs.map (glMk (l.kinds.map KdA.m) classes side) := by
      apply List.ext_getElem?
      intro i
      rw [List.getElem?_map, List.getElem?_map]
      cases e : bs[i]? with
      | some b =>
        have hi := (List.getElem?_eq_some_iff.mp e).1
        have hfi : hs[i]? = some hs[i] := List.getElem?_eq_getElem (by omega)
        rw [hfi]
        show some b.m = _
        rw [r1 i b e _ hfi]
        rfl
      | none =>
        have : bs.length ≤ i := List.getElem?_eq_none_iff.mp e
        rw [List.getElem?_eq_none (by omega)]
        rfl
    refine k H2 ⟨x, dx, ac, D, side, classes, bs⟩ (s1.trans s2) ?_ (fun y hy => ?_)
    · unfold PlA.m
      rw [em]
    · simp only [plN, List.mem_cons] at hy
      rcases hy with rfl | rfl | rfl | hy
      · exact e2
      · exact s2 _ _ (s1 _ _ hC)
      · exact s2 _ _ hd1
      · obtain ⟨b, hb, hy⟩ := List.mem_flatMap.mp hy
        exact s2 _ _ (l1 b hb y hy)
end
end HD
end
section
set_option Elab.async false
set_option linter.all false
set_option maxRecDepth 100000
set_option maxHeartbeats 2000000
namespace L2
open PySem PySem.Spec PyProof.Rows
/-- a comprehension over a range of steps -/
theorem lc_rangeC {lo c : Int} {n : Nat} {g : TG} {tt : TT} {te : TE} {vs : List Nat} {σ : St} {H1 : Hp} {D : Addr} {Qd : Hp → Prop} (Pv : Nat → Hp → Prop) (h0 : Pv 0 (upd H1 D (.lst [])))
    (hs : ∀ i H, i < n → Pv i H → g (.int (lo + (i : Nat) * c)) (wipe σ vs) H fun σ2 H2 => wipe σ2 vs = wipe σ vs ∧ tt σ2 H2 fun b H3 =>
      if b = true then te σ2 H3 fun y H4 => ∃ acc, H4 D = some (.lst acc) ∧ acc.length < sizeLine ∧ Pv (i + 1) (upd H4 D (.lst (acc ++ [y]))) else Pv (i + 1) H3) (hd : ∀ H, Pv n H → Qd H) :
    ∃ W : Nat → Nat → Hp → Prop, (∃ m, W 0 m (upd H1 D (.lst []))) ∧ ∀ i m H, W i m H →
      ((Itc lo c n).stop i H ∧ Qd H) ∨ ((Itc lo c n).go i H ∧ ∃ Nx : Hp → Prop, (∀ H', Nx H' → ∃ m', m' < m ∧ W (i + 1) m' H') ∧ ∀ x H', (Itc lo c n).yld i H x H' → g x (wipe σ vs) H' fun σ2 H2 => wipe σ2 vs = wipe σ vs ∧ tt σ2 H2 fun b H3 =>
        if b = true then te σ2 H3 fun y H4 => ∃ acc, H4 D = some (.lst acc) ∧ acc.length < sizeLine ∧ Nx (upd H4 D (.lst (acc ++ [y]))) else Nx H3) := by
  refine ⟨fun i m H => m = n - i ∧ i ≤ n ∧ Pv i H, ⟨n, by simp, Nat.zero_le _, h0⟩, ?_⟩
  rintro i m H ⟨rfl, hi, p⟩
  by_cases hlt : i < n
  · refine .inr ⟨hlt, Pv (i + 1), fun H' p' => ⟨n - (i + 1), by omega, rfl, hlt, p'⟩, fun x H' y => ?_⟩
    obtain ⟨e, y⟩ := y
    subst e y
    exact hs i _ hlt p
  · have e : i = n := by omega
    subst e
    exact .inl ⟨Nat.le_refl _, hd H p⟩
end L2
namespace HD
open PySem PySem.Spec PyProof.Rows L2
open PySem.W (Codec)
/-! ### texts -/
theorem codes_append (a b : Str) : codes (a ++ b) = codes a ++ codes b := by
  show (a.cps ++ b.cps).toList.map _ = _
  rw [Array.toList_append, List.map_append]
  rfl
theorem codes_len (a : Str) : (codes a).length = a.length := by
  unfold codes
  rw [List.length_map, Array.length_toList]
  rfl
theorem glue0 : ("" : Str).cps = #[] := by decide +kernel
theorem fold_toList : ∀ (r : List Str) (acc : Array Nat), (r.foldl (fun acc p => acc ++ ("" : Str).cps ++ p.cps) acc).toList = acc.toList ++ (r.map fun p => p.cps.toList).flatten
  | [], acc => by simp
  | p :: r, acc => by
    rw [List.foldl_cons, fold_toList r, glue0]
    simp
theorem codes_join (ys : List Str) : codes (Txt.join "" ys) = (ys.map codes).flatten := by
  unfold Txt.join Builtin.Str.glued
  unfold codes
  cases ys with
  | nil => rfl
  | cons y r =>
    show (List.foldl _ y.cps r).toList.map _ = _
    rw [fold_toList, List.map_append, List.map_cons, List.flatten_cons, List.map_flatten, List.map_map]
    rfl
/-! ### signs_of -/
def seenSigns : Str := "0123456789abcdef?"
def sign1 (c : Int) : Str := ⟨#[seenSigns.cps.toList.getD c.toNat 0]⟩
def signsS (cells : List Int) : Str := Txt.join "" (cells.map sign1)
def cellsOk (l : List Int) : Prop := ∀ x ∈ l, 0 ≤ x ∧ x < 17
def spSigns (K : PySem.W.Frag) : Sp := fun vs H Q _ => ∃ (a : Addr) (l : List Int), vs = [.ref a] ∧ SqL K H a (iv l) ∧ cellsOk l ∧ l.length ≤ 1000 ∧ ∀ H', Same H H' → Q (.str (signsS l)) H'
theorem seen17 : seenSigns.cps.toList.length = 17 := by decide +kernel
theorem atI_sign {z : Int} (h0 : 0 ≤ z) (h1 : z < 17) : atI seenSigns.cps.toList z = some (seenSigns.cps.toList.getD z.toNat 0) := by
  obtain ⟨n, rfl⟩ : ∃ n : Nat, z = (n : Int) := ⟨z.toNat, by omega⟩
  refine atI_nat ?_
  have := seen17
  rw [List.getD_eq_getElem?_getD, Int.toNat_natCast, List.getElem?_eq_getElem (by omega)]
  rfl
theorem sum_sign1 (l : List Int) : ((l.map sign1).map (·.length)).sum = l.length := by
  induction l with
  | nil => rfl
  | cons a l ih =>
    simp only [List.map_cons, List.sum_cons, List.length_cons, ih]
    show 1 + l.length = l.length + 1
    omega
theorem signs_len (l : List Int) : (signsS l).length = l.length := by
  have h := codes_len (signsS l)
  unfold signsS at h ⊢
  rw [← h, codes_join]
  induction l with
  | nil => rfl
  | cons a l ih =>
    simp only [List.map_cons, List.flatten_cons, List.length_append, List.length_cons]
    rw [ih (by rw [codes_len])]
    show 1 + l.length = l.length + 1
    omega
section
variable {P : Program} {w : World} {K : PySem.W.Frag} {mg : Str → Option Value} {base : Heap} {CK CL CS N : Addr} {C : Cs}
theorem scSigns : FnScope ["places", "place"] ["places"] (defScope sSignsOf) := ⟨rfl, rfl, rfl, by decide +kernel, rfl, by decide +kernel, by decide +kernel⟩
theorem ok_signs {f : Addr} {fd : FuncData} (F : Fun K "signs_of" "signs_of" sSignsOf f fd) (cS : Cn mg "SEEN_SIGNS" (.str seenSigns)) : FnOk P w K mg base CX0 1 f fd ["places"] (spSigns K) := by
  obtain ⟨uS, mS, rS⟩ := cS
  refine F.ok scSigns (fun vs H Q E h => (by obtain ⟨a, l, rfl, _⟩ := h; rfl)) (fun cdv A outer s H vs Q E hr h => ?_)
  obtain ⟨a, l, rfl, hL, hok, hl, k⟩ := h
  refine ⟨_, pss_one (ps_ret (pe_join pe_str (pe_lc (own := [("place", 1)]) (te := tOp rIxS (tC (.str seenSigns)) (tVar 1)) rfl scSigns.nd (pi_list (pv 0)) (blkOk_by (N := ["places", "place"]) (sc := defScope sSignsOf) (by decide +kernel))
    (fun _ _ _ _ _ => pg_name (i := 1) scSigns.nd rfl (Or.inl rfl)) (fun _ _ _ _ _ => pts_nil) (fun _ _ _ _ _ => pe_ix ix_str (pe_glob (by rfl) mS rS) (pv 1) (fun _ _ => rfl))))), ?_⟩
  refine ⟨⟨_, rfl⟩, _, rfl, a, rfl, ⟨_, hL⟩, fun D hD => lc_list (K := K) (a := a) (xs := iv l) (FInv H D fun i y ns => ns = [] ∧ ∃ x, l[i]? = some x ∧ y = .str (sign1 x)) (FInv.zero hD) (fun i H' _ f => f.same.seq hL) (fun i y H' hi f => ?_) (fun H' f => ?_)⟩
  · obtain ⟨z, hz, rfl⟩ := getI hi
    have hil := (List.getElem?_eq_some_iff.mp hz).1
    obtain ⟨g0, g1⟩ := hok z (List.mem_of_getElem? hz)
    refine ⟨rfl, yes_if ⟨_, rfl, seenSigns, z, _, rfl, rfl, ?_, atI_sign g0 g1, ?_⟩⟩
    · show seenSigns.cps.size ≤ _
      exact Nat.le_of_lt (line_ge (by decide +kernel))
    · exact f.step hD (by omega) (Same.refl H') ⟨rfl, z, hz, rfl⟩ LiesL.nil (by simp)
  · obtain ⟨ys, s1, hd1, hl1, fl⟩ := f.end
    rw [iv_len] at hl1
    have ey : ys = (l.map sign1).map V.str := by
      rw [List.map_map]
      refine fill_map hl1 fun i y x h1 h2 => ?_
      obtain ⟨ns, ⟨_, z, e1, e⟩, _⟩ := fl i y h1
      rw [h2] at e1
      rw [e, ← Option.some.inj e1]
      rfl
    refine ⟨"", D, l.map sign1, rfl, rfl, .inl (by rw [← ey]; exact SqL.of hd1), ?_, k H' s1⟩
    rw [sum_sign1, show ("" : Str).length = 0 from by decide +kernel]
    omega
/-! ### cells_lines -/
def rowS (cells : List Int) (i : Nat) : Str := signsS ((cells.drop (4 * i)).take 4)
def spLinesC (K : PySem.W.Frag) : Sp := fun vs H Q _ => ∃ (a : Addr) (l : List Int), vs = [.ref a] ∧ SqL K H a (iv l) ∧ cellsOk l ∧ l.length ≤ 1000 ∧ ∀ H' p, New H H' p (.lst (((List.range 4).map (rowS l)).map V.str)) → Q (.ref p) H'
theorem cellsOk.sub {l l' : List Int} (h : cellsOk l) (hs : ∀ x ∈ l', x ∈ l) : cellsOk l' := fun x hx => h x (hs x hx)
theorem scLinesC : FnScope ["cells", "place"] ["cells"] (defScope sCellsLines) := ⟨rfl, rfl, rfl, by decide +kernel, rfl, by decide +kernel, by decide +kernel⟩
theorem ok_linesC {f : Addr} {fd : FuncData} (F : Fun K "cells_lines" "cells_lines" sCellsLines f fd) (tR : mg "range" = none) (cC : Cn mg "CELLS" (.int 16)) (cR : Cn mg "ROW" (.int 4)) (dS : Dn P w K mg base CX0 1 "signs_of" ["places"] (spSigns K)) : FnOk P w K mg base CX0 2 f fd ["cells"] (spLinesC K) := by
  obtain ⟨uC, mC, rC⟩ := cC
  obtain ⟨uR, mR, rR⟩ := cR
  obtain ⟨fS, fdS, GS, mS, kS, bS⟩ := dS
  refine F.ok scLinesC (fun vs H Q E h => (by obtain ⟨a, l, rfl, _⟩ := h; rfl)) (fun cdv A outer s H vs Q E hr h => ?_)
  obtain ⟨a, l, rfl, hL, hok, hl, k⟩ := h
  refine ⟨_, pss_one (ps_ret (pe_lc (own := [("place", 1)]) (te := tCall (spSigns K) [] E0 (tCons (tSl (rSlL K) (tVar 0) (tPart (tVar 1)) (tPart (tOp (rI0 fun i j => .int (i + j)) (tVar 1) (tC (.int 4))))) tNil)) rfl scLinesC.nd (pi_range3 (by rfl) tR (pa_cons pe_int (pa_cons (pe_glob (by rfl) mC rC) (pa_cons (pe_glob (by rfl) mR rR) pa_nil)))) (blkOk_by (N := ["cells", "place"]) (sc := defScope sCellsLines) (by decide +kernel))
    (fun _ _ _ _ _ => pg_name (i := 1) scLinesC.nd rfl (Or.inl rfl)) (fun _ _ _ _ _ => pts_nil) (fun _ _ _ _ _ => pe_call GS hr rfl mS kS bS .nil pass0 (pa_cons (pe_slice sl_list (pv 0) (po_some (pv 1)) (po_some (pe_op op_add (pv 1) (pe_glob (by rfl) mR rR)))) pa_nil)))), ?_⟩
  refine ⟨0, 16, 4, 4, rfl, ⟨by decide, by decide, by decide +kernel, by decide +kernel⟩, fun D hD => lc_rangeC (lo := 0) (c := 4) (n := 4) (FInv H D fun i y ns => ns = [] ∧ y = .str (rowS l i)) (FInv.zero hD) (fun i H' hi f => ?_) (fun H' f => ?_)⟩
  · refine ⟨rfl, yes_if ⟨_, rfl, _, rfl, _, rfl, _, rfl, _, _, rfl, rfl, _, rfl, a, _, rfl, f.same.seq hL, fun c hc => ?_⟩⟩
    have ecut : cutV (iv l) (some (0 + (i : Int) * 4)) (some (0 + (i : Int) * 4 + 4)) = iv ((l.drop (4 * i)).take 4) := by
      have := cutV_mid (iv l) (4 * i) (4 * i + 4)
      rw [show (0 + (i : Int) * 4) = ((4 * i : Nat) : Int) by omega, show (((4 * i : Nat) : Int) + 4) = ((4 * i + 4 : Nat) : Int) by omega, this]
      unfold iv
      rw [List.map_take, List.map_drop, show 4 * i + 4 - 4 * i = 4 by omega]
    rw [ecut]
    refine ⟨c, (l.drop (4 * i)).take 4, rfl, SqL.of upd_same, hok.sub fun x hx => List.mem_of_mem_drop (List.mem_of_mem_take hx), ?_, fun H3 s3 => ?_⟩
    · rw [List.length_take]
      omega
    · exact f.step hD (by omega) ((same_upd hc).trans s3) ⟨rfl, rfl⟩ LiesL.nil (by simp)
  · obtain ⟨ys, s1, hd1, hl1, fl⟩ := f.end
    refine k H' D ⟨s1, hD, ?_⟩
    rw [hd1]
    congr 2
    rw [List.map_map]
    refine fill_map (by rw [hl1]; rfl) fun i y x h1 h2 => ?_
    obtain ⟨ns, ⟨_, e⟩, _⟩ := fl i y h1
    rw [e, range_at h2]
    rfl
/-! ### hoist_line -/
def hoistStrs' : List Str := ["hoist", "hoist above", "hoist below", "hoist above below"]
def shapeStrs' : List Str := ["square", "tails", "long", "shape?"]
def sideStrs' : List Str := ["front", "behind", "unknown"]
def hoistK (a b : Bool) : Nat := (if a = true then 1 else 0) + (if b = true then 2 else 0)
def hoistS (a b : Bool) : Str := hoistStrs'.getD (hoistK a b) ""
def spHoistL (C : Cs) : Sp := fun vs H Q _ => ∃ g : GlA, vs = [.ref g.a] ∧ H g.a = some (.ins C.G g.dx (glF g)) ∧ Q (.str (hoistS g.above g.below)) H
theorem scHoistL : FnScope ["glimpse", "above", "below"] ["glimpse"] (defScope sHoistLine) := ⟨rfl, rfl, rfl, by decide +kernel, rfl, by decide +kernel, by decide +kernel⟩
theorem ok_hoistL {f : Addr} {fd : FuncData} (F : Fun K "hoist_line" "hoist_line" sHoistLine f fd) (T : CsT K C) (cH : Tn K mg "HOIST_LINES" (hoistStrs'.map V.str)) : FnOk P w K mg base CX0 1 f fd ["glimpse"] (spHoistL C) := by
  obtain ⟨aH, mH, hH⟩ := cH
  refine F.ok scHoistL (fun vs H Q E h => (by obtain ⟨g, rfl, _⟩ := h; rfl)) (fun cdv A outer s H vs Q E hr h => ?_)
  obtain ⟨g, rfl, hg, k⟩ := h
  refine ⟨_, pss_cons (ps_set (i := 1) scHoistL.nd rfl (Or.inl rfl) (pe_ifExp (pt_val (pe_fld (pv 0) rfl)) pe_int pe_int)) (pss_cons (ps_set (i := 2) scHoistL.nd rfl (Or.inl rfl) (pe_ifExp (pt_val (pe_fld (pv 0) rfl)) pe_int pe_int))
    (pss_one (ps_ret (pe_ix ix_tup (pe_glob (v := .ref aH) (by rfl) mH rfl) (pe_op op_add (pv 1) (pv 2)) (fun _ _ => rfl))))), ?_⟩
  refine ⟨_, rfl, g.a, C.G, g.dx, _, _, rfl, hg, T.cG, T.nAbove, glF_above g, _, rfl, ?_⟩
  unfold hoistS hoistK at k
  refine ite2 (fun h1 => ?_) (fun h1 => ?_)
  · rw [if_pos h1] at k
    refine ⟨_, rfl, g.a, C.G, g.dx, _, _, rfl, hg, T.cG, T.nBelow, glF_below g, _, rfl, ?_⟩
    refine ite2 (fun h2 => ?_) (fun h2 => ?_)
    · rw [if_pos h2] at k
      exact ⟨_, rfl, _, rfl, _, _, rfl, rfl, aH, _, _, _, rfl, rfl, hH H, rfl, k⟩
    · rw [if_neg h2] at k
      exact ⟨_, rfl, _, rfl, _, _, rfl, rfl, aH, _, _, _, rfl, rfl, hH H, rfl, k⟩
  · rw [if_neg h1] at k
    refine ⟨_, rfl, g.a, C.G, g.dx, _, _, rfl, hg, T.cG, T.nBelow, glF_below g, _, rfl, ?_⟩
    refine ite2 (fun h2 => ?_) (fun h2 => ?_)
    · rw [if_pos h2] at k
      exact ⟨_, rfl, _, rfl, _, _, rfl, rfl, aH, _, _, _, rfl, rfl, hH H, rfl, k⟩
    · rw [if_neg h2] at k
      exact ⟨_, rfl, _, rfl, _, _, rfl, rfl, aH, _, _, _, rfl, rfl, hH H, rfl, k⟩
end
end HD
end
section
set_option Elab.async false
set_option linter.all false
set_option maxRecDepth 100000
set_option maxHeartbeats 2000000
namespace HD
open PySem PySem.Spec PyProof.Rows L2
open PySem.W (Codec)
def headS (m : PlM) : Str := "seen " ++ sideStrs'.getD m.side "" ++ " " ++ signsS m.classes
def sgLines (s : Nat × List Int) : List Str := shapeStrs'.getD s.1 "" :: (List.range 4).map (rowS s.2)
def glLines (g : GlM) : List Str := hoistS g.above g.below :: g.flags.flatMap sgLines
def plLines (m : PlM) : List Str := headS m :: m.glimpses.flatMap glLines
def nl (l : Str) : Str := l ++ "\n"
def textI (m : PlM) : List Int := ((plLines m).map fun l => codes (nl l)).flatten
def flagOk (s : Nat × List Int) : Prop := s.1 < 4 ∧ cellsOk s.2 ∧ s.2.length = 16
structure PlOk (m : PlM) : Prop where
  side : m.side < 3
  cl : cellsOk m.classes
  c16 : m.classes.length = 16
  g4 : m.glimpses.length ≤ 4
  f8 : ∀ g ∈ m.glimpses, g.flags.length ≤ 8
  fl : ∀ g ∈ m.glimpses, ∀ s ∈ g.flags, flagOk s
theorem flatMap_le {α β : Type} {f : α → List β} {B : Nat} : ∀ {l : List α}, (∀ x ∈ l, (f x).length ≤ B) → (l.flatMap f).length ≤ B * l.length
  | [], _ => by simp
  | a :: l, h => by
    have h1 := h a (by simp)
    have h2 := flatMap_le (l := l) fun x hx => h x (List.mem_cons_of_mem _ hx)
    rw [List.flatMap_cons, List.length_append, List.length_cons, Nat.mul_succ]
    omega
theorem sgLines_len (s : Nat × List Int) : (sgLines s).length = 5 := rfl
theorem glLines_len {g : GlM} (h : g.flags.length ≤ 8) : (glLines g).length ≤ 41 := by
  have := flatMap_le (f := sgLines) (B := 5) (l := g.flags) fun x _ => by rw [sgLines_len]; exact Nat.le_refl _
  unfold glLines
  rw [List.length_cons]
  omega
theorem plLines_len {m : PlM} (h : PlOk m) : (plLines m).length ≤ 165 := by
  have := flatMap_le (f := glLines) (B := 41) (l := m.glimpses) fun x hx => glLines_len (h.f8 x hx)
  have := h.g4
  unfold plLines
  rw [List.length_cons]
  omega
theorem getD_len {l : List Str} {i B : Nat} (h : ∀ x ∈ l, x.length ≤ B) : (l.getD i "").length ≤ B := by
  rw [List.getD_eq_getElem?_getD]
  cases e : l[i]? with
  | none =>
    show ("" : Str).length ≤ B
    rw [show ("" : Str).length = 0 from by decide +kernel]
    exact Nat.zero_le _
  | some x => exact h x (List.mem_of_getElem? e)
theorem app_len (a b : Str) : (a ++ b).length = a.length + b.length := Array.size_append
theorem head_len {m : PlM} (h : m.classes.length ≤ 100) : (headS m).length ≤ 200 := by
  unfold headS
  rw [app_len, app_len, app_len, signs_len]
  have h1 : ("seen " : Str).length = 5 := by decide +kernel
  have h2 : (" " : Str).length = 1 := by decide +kernel
  have h3 : (sideStrs'.getD m.side "").length ≤ 10 := getD_len (by decide +kernel)
  omega
theorem line_len {m : PlM} (h : PlOk m) : ∀ x ∈ plLines m, x.length ≤ 200 := fun x hx => by
  unfold plLines at hx
  rcases List.mem_cons.mp hx with rfl | hx
  · exact head_len (by rw [h.c16]; decide)
  · obtain ⟨g, hg, hx⟩ := List.mem_flatMap.mp hx
    unfold glLines at hx
    rcases List.mem_cons.mp hx with rfl | hx
    · unfold hoistS
      exact getD_len (by decide +kernel)
    · obtain ⟨s, hs, hx⟩ := List.mem_flatMap.mp hx
      unfold sgLines at hx
      rcases List.mem_cons.mp hx with rfl | hx
      · exact getD_len (by decide +kernel)
      · obtain ⟨i, hi, rfl⟩ := List.mem_map.mp hx
        unfold rowS
        rw [signs_len, List.length_take]
        omega
theorem at_strs {l : List Str} {i : Nat} (h : i < l.length) : atI (l.map V.str) (i : Int) = some (.str (l.getD i "")) := by
  refine atI_nat ?_
  rw [List.getElem?_map, List.getD_eq_getElem?_getD, List.getElem?_eq_getElem h]
  rfl
def spText (C : Cs) : Sp := fun vs H Q _ => ∃ p : PlA, vs = [.ref p.a] ∧ Lies H (plN C p) ∧ PlOk p.m ∧ ∀ H' q, New H H' q (.lst (iv (textI p.m))) → Q (.ref q) H'
section
variable {P : Program} {w : World} {K : PySem.W.Frag} {mg : Str → Option Value} {base : Heap} {CK CL CS CN N N2 : Addr} {C : Cs}
theorem scText : FnScope ["plate", "lines", "glimpse", "sighting", "line"] ["plate"] (defScope sPlateText) := ⟨rfl, rfl, rfl, by decide +kernel, rfl, by decide +kernel, by decide +kernel⟩
theorem ok_text {f : Addr} {fd : FuncData} (F : Fun K "plate_text" "plate_text" sPlateText f fd) (T : CsT K C) (cS : Tn K mg "SIDES" (sideStrs'.map V.str)) (cSh : Tn K mg "SEEN_SHAPES" (shapeStrs'.map V.str)) (dS : Dn P w K mg base CX0 1 "signs_of" ["places"] (spSigns K))
    (dH : Dn P w K mg base CX0 1 "hoist_line" ["glimpse"] (spHoistL C)) (dC : Dn P w K mg base CX0 2 "cells_lines" ["cells"] (spLinesC K)) (dP : Dn P w K mg base CX0 1 "spelled" ["written"] spSpelled) : FnOk P w K mg base CX0 3 f fd ["plate"] (spText C) := by
  obtain ⟨aS, mS, hS⟩ := cS
  obtain ⟨aH, mSh, hSh⟩ := cSh
  obtain ⟨fS, fdS, GS, mSg, kS, bS⟩ := dS
  obtain ⟨fH, fdH, GH, mH, kH, bH⟩ := dH
  obtain ⟨fC, fdC, GC, mC, kC, bC⟩ := dC
  obtain ⟨fP, fdP, GP, mP, kP, bP⟩ := dP
  refine F.ok scText (fun vs H Q E h => (by obtain ⟨p, rfl, _⟩ := h; rfl)) (fun cdv A outer s H vs Q E hr h => ?_)
  obtain ⟨p, rfl, L, ok, k⟩ := h
  have hr1 : Room 1 _ := hr.mono (by decide)
  refine ⟨_, pss_cons (ps_set (i := 1) scText.nd rfl (Or.inl rfl) (pe_lst (pa_cons (pe_op op_add_str (pe_op op_add_str (pe_op op_add_str pe_str (pe_ix ix_tup (pe_glob (v := .ref aS) (by rfl) mS rfl) (pe_fld (pv 0) rfl) (fun _ _ => rfl))) pe_str) (pe_call GS hr1 rfl mSg kS bS .nil pass0 (pa_cons (pe_fld (pv 0) rfl) pa_nil))) pa_nil)))
    (pss_cons (ps_for PassesOwn.never rfl (pi_list (pe_fld (pv 0) rfl)) (pg_name (i := 2) scText.nd rfl (Or.inl rfl))
      (pss_cons (ps_expr (pe_bm PySem.F.plainAttrs_list PySem.F.slot_list_append PySem.F.type_list_append mt_append (pv 1) (pa_cons (pe_call GH hr1 rfl mH kH bH .nil pass0 (pa_cons (pv 2) pa_nil)) pa_nil)))
      (pss_one (ps_for PassesOwn.never rfl (pi_list (pe_fld (pv 2) rfl)) (pg_name (i := 3) scText.nd rfl (Or.inl rfl))
        (pss_cons (ps_expr (pe_bm PySem.F.plainAttrs_list PySem.F.slot_list_append PySem.F.type_list_append mt_append (pv 1) (pa_cons (pe_ix ix_tup (pe_glob (v := .ref aH) (by rfl) mSh rfl) (pe_fld (pv 3) rfl) (fun _ _ => rfl)) pa_nil)))
        (pss_one (ps_expr (pe_bm PySem.F.plainAttrs_list PySem.F.slot_list_extend PySem.F.type_list_extend mt_extend (pv 1) (pa_cons (pe_call GC hr rfl mC kC bC .nil pass0 (pa_cons (pe_fld (pv 3) rfl) pa_nil)) pa_nil)))))))))
    (pss_one (ps_ret (pe_call GP hr1 rfl mP kP bP .nil pass0 (pa_cons (pe_join pe_str (pe_lc (own := [("line", 4)]) rfl scText.nd (pi_list (pv 1)) (blkOk_by (N := ["plate", "lines", "glimpse", "sighting", "line"]) (sc := defScope sPlateText) (by decide +kernel))
      (fun _ _ _ _ _ => pg_name (i := 4) scText.nd rfl (Or.inl rfl)) (fun _ _ _ _ _ => pts_nil) (fun _ _ _ _ _ => pe_op op_add_str (pv 4) pe_str))) pa_nil))))), ?_⟩
  have eg : p.m.glimpses = p.glimpses.map GlA.m := rfl
  have hg4 : p.glimpses.length ≤ 4 := by have := ok.g4; rw [eg, List.length_map] at this; exact this
  have hside : atI (sideStrs'.map V.str) ((p.side : Nat) : Int) = some (.str (sideStrs'.getD p.side "")) := at_strs ok.side
  have h1 : ("seen " : Str).length = 5 := by decide +kernel
  have h2 : (" " : Str).length = 1 := by decide +kernel
  have h3 : (sideStrs'.getD p.side "").length ≤ 10 := getD_len (by decide +kernel)
  have cl16 : p.classes.length = 16 := ok.c16
  refine ⟨_, rfl, p.a, C.P, p.dx, _, _, rfl, L.pl, T.cP, T.nSide, plF_side p, aS, _, _, _, rfl, rfl, hS H, hside, _, _, rfl, rfl, ?_, _, _, rfl, rfl, ?_, _, rfl, p.a, C.P, p.dx, _, _, rfl, L.pl, T.cP, T.nClasses, plF_classes p, p.cl, p.classes, rfl, SqL.of L.cl, ok.cl, by omega, fun H1 s1 => ?_⟩
  · exact Nat.le_of_lt (line_ge (by omega))
  · rw [app_len]
    exact Nat.le_of_lt (line_ge (by omega))
  refine ⟨_, _, rfl, rfl, ?_, (by show 1 ≤ sizeLine; decide), fun a ha => ?_⟩
  · rw [app_len, app_len, signs_len]
    exact Nat.le_of_lt (line_ge (by omega))
  have ha0 : H a = none := s1.free ha
  have sa := same_upd2 (o := .lst [V.str (headS p.m)]) s1 ha0
  have L' := L.same sa
  refine ⟨_, rfl, p.a, C.P, p.dx, _, _, rfl, L'.pl, T.cP, T.nGlimpses, plF_glimpses p, p.gl, rfl, ⟨_, SqL.of L'.gl⟩, for_list (K := K) (a := p.gl) (xs := p.glimpses.map fun g => V.ref g.a)
    (fun i σ H' => ∃ v2 v3, σ = [some (.ref p.a), some (.ref a), v2, v3, none] ∧ Same H H' ∧ H' a = some (.lst ((headS p.m :: ((p.glimpses.take i).map GlA.m).flatMap glLines).map V.str))) ⟨none, none, rfl, sa, upd_same⟩ (fun i σ H' _ ⟨_, _, _, s2, _⟩ => SqL.of (s2 _ _ L.gl)) ?_ ?_⟩
  · rintro i y σ H' hi ⟨v2, v3, rfl, s2, h'⟩
    rw [List.getElem?_map] at hi
    obtain ⟨g, hg, rfl⟩ : ∃ g, p.glimpses[i]? = some g ∧ y = V.ref g.a := by
      cases e : p.glimpses[i]? with
      | none => rw [e] at hi; cases hi
      | some g => rw [e] at hi; exact ⟨g, rfl, (Option.some.inj hi).symm⟩
    have hil := (List.getElem?_eq_some_iff.mp hg).1
    have hgm := List.mem_of_getElem? hg
    have hgm2 : g.m ∈ p.m.glimpses := by rw [eg]; exact List.mem_map_of_mem hgm
    have Lg := (L.sub hgm).same s2
    have lenP : (headS p.m :: ((p.glimpses.take i).map GlA.m).flatMap glLines).length ≤ 165 := by
      have := flatMap_le (f := glLines) (B := 41) (l := (p.glimpses.take i).map GlA.m) fun x hx => by
        obtain ⟨g', hg', rfl⟩ := List.mem_map.mp hx
        exact glLines_len (ok.f8 _ (by rw [eg]; exact List.mem_map_of_mem (List.mem_of_mem_take hg')))
      rw [List.length_map, List.length_take] at this
      rw [List.length_cons]
      omega
    generalize hpre : (headS p.m :: ((p.glimpses.take i).map GlA.m).flatMap glLines) = pre at h' lenP
    have hf8 : g.flags.length ≤ 8 := by have := ok.f8 g.m hgm2; unfold GlA.m at this; rw [List.length_map] at this; exact this
    refine ⟨_, rfl, .inl ⟨rfl, _, SqL.of h'⟩, _, rfl, g, rfl, Lg.ga, a, _, _, rfl, rfl, h', (by rw [List.length_map]; exact line_ge (by omega)), ?_⟩
    have s3 := same_upd2 (o := .lst (pre.map V.str ++ [V.str (hoistS g.above g.below)])) s2 ha0
    refine ⟨_, rfl, g.a, C.G, g.dx, _, _, rfl, ((L.sub hgm).same s3).ga, T.cG, T.nFlags, glF_flags g, g.l, rfl, ⟨_, SqL.of ((L.sub hgm).same s3).fl⟩, for_list (K := K) (a := g.l) (xs := g.flags.map fun s => V.ref s.a)
      (fun j σ H' => ∃ v3, σ = [some (.ref p.a), some (.ref a), some (.ref g.a), v3, none] ∧ Same H H' ∧ H' a = some (.lst ((pre ++ hoistS g.above g.below :: ((g.flags.take j).map SgA.m).flatMap sgLines).map V.str))) ⟨v3, rfl, s3, by rw [upd_same, List.map_append]; rfl⟩ (fun j σ H' _ ⟨_, _, s4, _⟩ => SqL.of ((L.sub hgm).same s4).fl) ?_ ?_⟩
    · rintro j y σ H2 hj ⟨v3, rfl, s4, h4⟩
      rw [List.getElem?_map] at hj
      obtain ⟨sg, hsg, rfl⟩ : ∃ sg, g.flags[j]? = some sg ∧ y = V.ref sg.a := by
        cases e : g.flags[j]? with
        | none => rw [e] at hj; cases hj
        | some sg => rw [e] at hj; exact ⟨sg, rfl, (Option.some.inj hj).symm⟩
      have hjl := (List.getElem?_eq_some_iff.mp hsg).1
      have hsm := List.mem_of_getElem? hsg
      obtain ⟨o1, o2, o3⟩ := ok.fl g.m hgm2 sg.m (List.mem_map_of_mem hsm)
      have Ls := ((L.sub hgm).sub2 hsm).same s4
      have lenQ : (pre ++ hoistS g.above g.below :: ((g.flags.take j).map SgA.m).flatMap sgLines).length ≤ 300 := by
        have := flatMap_le (f := sgLines) (B := 5) (l := (g.flags.take j).map SgA.m) fun x _ => by rw [sgLines_len]; exact Nat.le_refl _
        rw [List.length_map, List.length_take] at this
        rw [List.length_append, List.length_cons]
        omega
      have et : ((g.flags.take (j + 1)).map SgA.m).flatMap sgLines = ((g.flags.take j).map SgA.m).flatMap sgLines ++ sgLines sg.m := by
        rw [take_snoc hsg, List.map_append, List.flatMap_append]
        simp
      generalize hpq : (pre ++ hoistS g.above g.below :: ((g.flags.take j).map SgA.m).flatMap sgLines) = prq at h4 lenQ
      refine ⟨_, rfl, .inl ⟨rfl, _, SqL.of h4⟩, _, rfl, sg.a, C.S, sg.dx, _, _, rfl, Ls.sa, T.cS, T.nShape, sgF_shape sg, aH, _, _, _, rfl, rfl, hSh H2, at_strs (l := shapeStrs') o1, a, _, _, rfl, rfl, h4, (by rw [List.length_map]; exact line_ge (by omega)), ?_⟩
      have s5 := same_upd2 (o := .lst (prq.map V.str ++ [V.str (shapeStrs'.getD sg.m.1 "")])) s4 ha0
      have Ls5 := ((L.sub hgm).sub2 hsm).same s5
      have h5 : (upd H2 a (.lst (prq.map V.str ++ [V.str (shapeStrs'.getD sg.m.1 "")]))) a = some (.lst (prq.map V.str ++ [V.str (shapeStrs'.getD sg.m.1 "")])) := upd_same
      refine ⟨_, rfl, .inl ⟨rfl, _, SqL.of h5⟩, _, rfl, sg.a, C.S, sg.dx, _, _, rfl, Ls5.sa, T.cS, T.nCells, sgF_cells sg, sg.l, sg.cells, rfl, SqL.of Ls5.sl, o2, (by have : sg.cells.length = 16 := o3; omega), fun H6 q hN => ?_⟩
      refine ⟨a, q, _, _, rfl, rfl, hN.1 _ _ h5, hN.2.2, ?_, _, rfl, same_upd2 (s5.trans hN.1) ha0, ?_⟩
      · rw [List.length_append, List.length_map, List.length_map, List.length_map, List.length_range, List.length_singleton]
        exact Nat.le_of_lt (line_ge (by omega))
      · rw [upd_same, et]
        have e7 : pre ++ hoistS g.above g.below :: (((g.flags.take j).map SgA.m).flatMap sgLines ++ sgLines sg.m) = prq ++ sgLines sg.m := by
          rw [← hpq]
          simp
        rw [e7, List.map_append, List.append_assoc]
        rfl
    · rintro σ H2 ⟨v3, rfl, s4, h4⟩
      rw [List.length_map, List.take_length] at h4
      refine ⟨_, _, rfl, s4, ?_⟩
      have eq : ((p.glimpses.take (i + 1)).map GlA.m).flatMap glLines = ((p.glimpses.take i).map GlA.m).flatMap glLines ++ glLines g.m := by
        rw [take_snoc hg, List.map_append, List.flatMap_append]
        simp
      rw [h4, eq, ← hpre]
      rfl
  · rintro σ H' ⟨v2, v3, rfl, s2, h'⟩
    rw [List.length_map, List.take_length] at h'
    have h' : H' a = some (.lst ((plLines p.m).map V.str)) := h'
    have hpl := plLines_len ok
    refine ⟨⟨_, rfl⟩, _, rfl, a, rfl, ⟨_, SqL.of h'⟩, fun D hD => lc_list (K := K) (a := a) (xs := (plLines p.m).map V.str) (FInv H' D fun i y ns => ns = [] ∧ ∃ x, (plLines p.m)[i]? = some x ∧ y = .str (nl x)) (FInv.zero hD) (fun i H3 _ f => SqL.of (f.same _ _ h')) (fun i y H3 hi f => ?_) (fun H3 f => ?_)⟩
    · rw [List.getElem?_map] at hi
      obtain ⟨x, hx, rfl⟩ : ∃ x, (plLines p.m)[i]? = some x ∧ y = V.str x := by
        cases e : (plLines p.m)[i]? with
        | none => rw [e] at hi; cases hi
        | some x => rw [e] at hi; exact ⟨x, rfl, (Option.some.inj hi).symm⟩
      have hil := (List.getElem?_eq_some_iff.mp hx).1
      have hxl := line_len ok x (List.mem_of_getElem? hx)
      refine ⟨rfl, yes_if ⟨_, rfl, _, _, rfl, rfl, ?_, ?_⟩⟩
      · rw [show ("\n" : Str).length = 1 from by decide +kernel]
        exact Nat.le_of_lt (line_ge (by omega))
      · exact f.step hD (by omega) (Same.refl H3) ⟨rfl, x, hx, rfl⟩ LiesL.nil (by simp)
    · obtain ⟨ys, s3, hd3, hl3, fl⟩ := f.end
      rw [List.length_map] at hl3
      have ey : ys = ((plLines p.m).map nl).map V.str := by
        rw [List.map_map]
        refine fill_map hl3 fun i y x h1 h2 => ?_
        obtain ⟨ns, ⟨_, z, e1, e⟩, _⟩ := fl i y h1
        rw [h2] at e1
        rw [e, ← Option.some.inj e1]
        rfl
      have sum : (((plLines p.m).map nl).map (·.length)).sum ≤ 201 * 165 := by
        have := StrLaws.sumLen_le (B := 201) ((plLines p.m).map nl) fun y hy => by
          obtain ⟨x, hx, rfl⟩ := List.mem_map.mp hy
          have := line_len ok x hx
          unfold nl
          rw [app_len, show ("\n" : Str).length = 1 from by decide +kernel]
          omega
        rw [List.length_map] at this
        refine Nat.le_trans this ?_
        rw [Nat.mul_comm]
        exact Nat.mul_le_mul_left _ hpl
      have ec : codes (Txt.join "" ((plLines p.m).map nl)) = textI p.m := by
        rw [codes_join, List.map_map]
        rfl
      refine ⟨"", D, (plLines p.m).map nl, rfl, rfl, .inl (by rw [← ey]; exact SqL.of hd3), ?_, ?_⟩
      · rw [show ("" : Str).length = 0 from by decide +kernel]
        omega
      · refine ⟨_, rfl, ?_, fun H4 q hN => ?_⟩
        · have : (Txt.join "" ((plLines p.m).map nl)).cps.size = (((plLines p.m).map nl).map (·.length)).sum := by
            have h := codes_len (Txt.join "" ((plLines p.m).map nl))
            show (Txt.join "" ((plLines p.m).map nl)).length = _
            rw [← h, codes_join, List.length_flatten, List.map_map]
            congr 1
            exact List.map_congr_left fun x _ => codes_len x
          rw [this]
          omega
        · rw [ec] at hN
          exact k H4 q ⟨(s2.trans s3).trans hN.1, (s2.trans s3).free hN.2.1, hN.2.2⟩
end
end HD
end
section
set_option Elab.async false
set_option linter.all false
set_option maxRecDepth 100000
set_option maxHeartbeats 2000000
namespace HD
open PySem PySem.Spec PyProof.Rows L2
open PySem.W (Codec)
/-! ### draw -/
def drawnM (light : Int) (side : Nat) (ms : List KdM) (hs : List (List Nat)) : PlM := ⟨side, classesI light, hs.map (glMk ms (classesI light) side)⟩
def drawO (light : Int) (side : Nat) (t : List Int) (ns : List Nat) : List Int := if 65536 < t.length then [-2] else match lockerI t with
  | none => [-6]
  | some x => if 1 < side then [-1] else match showI x.2 ns with
    | none => [-4]
    | some hs => (((textI (drawnM light side x.2 hs)).length : Nat) : Int) :: textI (drawnM light side x.2 hs)
def spDraw (K : PySem.W.Frag) : Sp := fun vs H Q _ => ∃ (light : Int) (side : Nat) (at_ as_ : Addr) (t : List Int) (ns : List Nat), vs = [.int light, .int (side : Nat), .ref at_, .ref as_] ∧ SqL K H at_ (iv t) ∧ t.length ≤ 66000 ∧ SqL K H as_ (iv (nv ns)) ∧ ∀ H' q, H' q = some (.lst (iv (drawO light side t ns))) → Q (.ref q) H'
theorem places_ok {signs part l : List Int} (h : placesI signs part = some l) : l.length = part.length ∧ ∀ x ∈ l, 0 ≤ x ∧ x < signs.length := by
  unfold placesI at h
  split at h
  · rename_i hc
    have := Option.some.inj h
    subst this
    refine ⟨by rw [List.length_map], fun x hx => ?_⟩
    obtain ⟨b, hb, rfl⟩ := List.mem_map.mp hx
    have hm : b ∈ signs := by simpa using List.all_eq_true.mp hc b hb
    have := List.idxOf_lt_length_of_mem hm
    omega
  · cases h
theorem kind_ok {line : List Int} {m : KdM} (h : kindI line = some m) : m.shape < 3 ∧ lookOk m.look := by
  unfold kindI kindW at h
  split at h
  · cases h
  · rename_i r er
    by_cases hl : (JM.cutI 32 line).length = (if r = 2 then 4 else 5)
    · rw [if_pos hl] at h
      generalize nmI r _ = a1 at h
      generalize whI r _ = a2 at h
      generalize digitI _ 8 = a3 at h
      cases e4 : amongI (shapesW.map codes) ((JM.cutI 32 line).getD ((JM.cutI 32 line).length - 2) []) with
      | none => rw [e4, kind5_4] at h; cases h
      | some sh =>
        rw [e4] at h
        cases e5 : coloursI ((JM.cutI 32 line).getD ((JM.cutI 32 line).length - 1) []) with
        | none => rw [e5, kind5_5] at h; cases h
        | some lk =>
          rw [e5] at h
          match a1, a2, a3, h with
          | some n, some w, some c, h =>
            have := Option.some.inj h
            subst this
            refine ⟨among_lt e4, ?_⟩
            unfold coloursI at e5
            split at e5
            · rename_i h16
              obtain ⟨p1, p2⟩ := places_ok e5
              exact ⟨p1.trans h16, p2⟩
            · cases e5
    · rw [if_neg hl] at h
      cases h
theorem kinds_ok : ∀ {r : List (List Int)} {ms : List KdM}, kindsI r = some ms → ∀ m ∈ ms, m.shape < 3 ∧ lookOk m.look
  | [], ms, h, m, hm => by
    have := Option.some.inj h
    subst this
    exact absurd hm (by simp)
  | l :: r, ms, h, m, hm => by
    unfold kindsI at h
    cases e1 : kindI l with
    | none => rw [e1] at h; cases kindsI r <;> cases h
    | some k =>
      rw [e1] at h
      cases e2 : kindsI r with
      | none => rw [e2] at h; cases h
      | some ks =>
        rw [e2] at h
        have := Option.some.inj h
        subst this
        rcases List.mem_cons.mp hm with rfl | hm
        · exact kind_ok e1
        · exact kinds_ok e2 m hm
theorem locker_ok {t : List Int} {x : List Int × List KdM} (h : lockerI t = some x) : ∀ m ∈ x.2, m.shape < 3 ∧ lookOk m.look := by
  unfold lockerI at h
  split at h
  · rename_i l r e
    cases e1 : nameBehI (codes "locker") l with
    | none => rw [e1, locker4_1] at h; cases h
    | some n =>
      cases e2 : kindsI r with
      | none => rw [e2, locker4_2] at h; cases h
      | some ms =>
        rw [e1, e2] at h
        have h : (if (orderI ms && differI ms) = true then some (n, ms) else none) = some x := h
        split at h
        · have := Option.some.inj h
          subst this
          exact kinds_ok e2
        · cases h
  · cases h
theorem row_lt {ms : List KdM} {fs : List Nat} (h : rowMeansI ms fs = true) : ∀ f ∈ fs, f < ms.length := fun f hf => by
  unfold rowMeansI at h
  have := (Bool.and_eq_true_iff.mp h).1
  simpa using List.all_eq_true.mp this f hf
theorem show_out {ms : List KdM} {ns : List Nat} {hs : List (List Nat)} (h : showI ms ns = some hs) : outI ms hs = true := by
  unfold showI at h
  split at h
  · cases h
  · split at h
    · rename_i hc
      rw [← Option.some.inj h]
      exact hc
    · cases h
theorem show_lt {ms : List KdM} {ns : List Nat} {hs : List (List Nat)} (h : showI ms ns = some hs) : ∀ x ∈ hs, ∀ f ∈ x, f < ms.length := fun x hx => by
  have := show_out h
  unfold outI at this
  exact row_lt (List.all_eq_true.mp (Bool.and_eq_true_iff.mp this).1 x hx)
theorem classes_ok (light : Int) : ∀ x ∈ classesI light, 0 ≤ x ∧ x < 16 := fun x hx => by
  unfold classesI classAt at hx
  obtain ⟨c, _, rfl⟩ := List.mem_map.mp hx
  exact ⟨Int.emod_nonneg _ (by decide), Int.emod_lt_of_pos _ (by decide)⟩
theorem classes16 (light : Int) : (classesI light).length = 16 := by
  unfold classesI
  rw [List.length_map, List.length_range]
theorem seen_ok {look classes : List Int} {side : Nat} (hl : lookOk look) (hc : ∀ x ∈ classes, 0 ≤ x ∧ x < 16) : (seenI look classes side).length = 16 ∧ cellsOk (seenI look classes side) := by
  have hg : ∀ i, 0 ≤ classes.getD i 0 ∧ classes.getD i 0 < 17 := fun i => by
    rw [List.getD_eq_getElem?_getD]
    cases e : classes[i]? with
    | none => exact ⟨by decide, by decide⟩
    | some z =>
      obtain ⟨h1, h2⟩ := hc z (List.mem_of_getElem? e)
      exact ⟨h1, by show z < 17; omega⟩
  unfold seenI
  split
  · refine ⟨by rw [List.length_map, List.length_range], fun x hx => ?_⟩
    obtain ⟨i, _, rfl⟩ := List.mem_map.mp hx
    exact hg _
  · refine ⟨by rw [List.length_map]; exact hl.1, fun x hx => ?_⟩
    obtain ⟨i, _, rfl⟩ := List.mem_map.mp hx
    exact hg _
theorem drawn_ok {light : Int} {side : Nat} {ms : List KdM} {hs : List (List Nat)} (hside : ¬ 1 < side) (hk : ∀ m ∈ ms, m.shape < 3 ∧ lookOk m.look) (h4 : hs.length ≤ 4) (h8 : ∀ h ∈ hs, h.length ≤ 8) (hlt : ∀ x ∈ hs, ∀ f ∈ x, f < ms.length) : PlOk (drawnM light side ms hs) where
  side := by show side < 3; omega
  cl := fun x hx => by obtain ⟨h1, h2⟩ := classes_ok light x hx; exact ⟨h1, by omega⟩
  c16 := classes16 light
  g4 := by show (hs.map _).length ≤ 4; rw [List.length_map]; exact h4
  f8 := fun g hg => by
    obtain ⟨h, hh, rfl⟩ := List.mem_map.mp hg
    show (h.map _).length ≤ 8
    rw [List.length_map]
    exact h8 h hh
  fl := fun g hg s hs' => by
    obtain ⟨h, hh, rfl⟩ := List.mem_map.mp hg
    obtain ⟨f, hf, rfl⟩ := List.mem_map.mp hs'
    have hfl := hlt h hh f hf
    have hm : ms.getD f zeroK ∈ ms := by
      rw [List.getD_eq_getElem?_getD, List.getElem?_eq_getElem hfl]
      exact List.getElem_mem hfl
    obtain ⟨k1, k2⟩ := hk _ hm
    obtain ⟨q1, q2⟩ := seen_ok (side := side) k2 (classes_ok light)
    exact ⟨by show (ms.getD f zeroK).shape < 4; omega, q2, q1⟩
theorem text_len {m : PlM} (ok : PlOk m) : (textI m).length ≤ 100000 := by
  have hpl := plLines_len ok
  have h := StrLaws.sumLen_le (B := 201) ((plLines m).map nl) fun y hy => by
    obtain ⟨x, hx, rfl⟩ := List.mem_map.mp hy
    have := line_len ok x hx
    unfold nl
    rw [app_len, show ("\n" : Str).length = 1 from by decide +kernel]
    omega
  rw [List.length_map, List.map_map] at h
  unfold textI
  rw [List.length_flatten, List.map_map]
  have e : (plLines m).map (List.length ∘ fun l => codes (nl l)) = (plLines m).map ((fun x : Str => x.length) ∘ nl) := List.map_congr_left fun x _ => codes_len (nl x)
  rw [e]
  have : (plLines m).length * 201 ≤ 165 * 201 := Nat.mul_le_mul_right _ hpl
  omega
section
variable {P : Program} {w : World} {K : PySem.W.Frag} {mg : Str → Option Value} {base : Heap} {CK CL CS CN N N2 : Addr} {C : Cs}
theorem scDraw : FnScope ["light", "side", "t", "s", "locker", "hoists", "text"] ["light", "side", "t", "s"] (defScope sDraw) := ⟨rfl, rfl, rfl, by decide +kernel, rfl, by decide +kernel, by decide +kernel⟩
theorem ok_draw {f : Addr} {fd : FuncData} (F : Fun K "draw" "draw" sDraw f fd) (XN : XpT K mg "NoLocker" CN N) (XS : XpT K mg "NoShowing" CS N2) (tL : mg "len" = none) (cM : Cn mg "MOST_BYTES" (.int 65536)) (cB : Cn mg "BEHIND" (.int 1))
    (dL : Dn P w K mg base (CXf P w) 6 "read_locker" ["text"] (spReadLocker K CL CK CN)) (dS : Dn P w K mg base (CXf P w) 4 "read_showing" ["locker", "numbers"] (spShow K CL CK CS)) (dT : Dn P w K mg base CX0 3 "plate_text" ["plate"] (spText C)) (dP : Dn P w K mg base CX0 5 "plate_seen" ["locker", "hoists", "classes", "side"] (spSeen K C CL CK))
    (dC : Dn P w K mg base CX0 1 "classes_of" ["light"] spClasses) : FnOk P w K mg base CX0 7 f fd ["light", "side", "t", "s"] (spDraw K) := by
  obtain ⟨uM, mM, rM⟩ := cM
  obtain ⟨uB, mB, rB⟩ := cB
  obtain ⟨fL, fdL, GL, mL, kL, bL⟩ := dL
  obtain ⟨fS, fdS, GS, mS, kS, bS⟩ := dS
  obtain ⟨fT, fdT, GT, mT, kT, bT⟩ := dT
  obtain ⟨fP, fdP, GP, mP, kP, bP⟩ := dP
  obtain ⟨fC, fdC, GC, mC, kC, bC⟩ := dC
  refine F.ok scDraw (fun vs H Q E h => (by obtain ⟨a, b, c, d, e, g, rfl, _⟩ := h; rfl)) (fun cdv A outer s H vs Q E hr h => ?_)
  obtain ⟨light, side, at_, as_, t, ns, rfl, hT, htl, hS, k⟩ := h
  have hr1 : Room 1 _ := hr.mono (by decide)
  have hr3 : Room 3 _ := hr.mono (by decide)
  have hr4 : Room 4 _ := hr.mono (by decide)
  have hr5 : Room 5 _ := hr.mono (by decide)
  refine ⟨_, pss_cons (ps_if (pt_cmpR op_gt (pe_callB call_len_seq (by rfl) tL PySem.boot_len (pa_cons (pv 2) pa_nil)) (pe_glob (by rfl) mM rM) (nomark _)) (pss_one (ps_ret (pe_lst (pa_cons (pe_un un_neg pe_int) pa_nil)))) pss_nil)
    (pss_cons (ps_try ⟨rfl, rfl⟩ (psx_call (i := 4) scDraw.nd rfl (Or.inl rfl) GL hr rfl mL kL bL (pa_cons (pv 2) pa_nil))
      (ph_cons (ts := tRet (tLst (tCons (tUn (rU fun i => .int (-i)) (tC (.int 6))) tNil))) XN.c rfl XN.mC (fun _ => pss_one (ps_ret (pe_lst (pa_cons (pe_un un_neg pe_int) pa_nil)))) ph_nil))
    (pss_cons (ps_if (pt_cmpR op_gt (pv 1) (pe_glob (by rfl) mB rB) (nomark _)) (pss_one (ps_ret (pe_lst (pa_cons (pe_un un_neg pe_int) pa_nil)))) pss_nil)
    (pss_cons (ps_try ⟨rfl, rfl⟩ (psx_call (i := 5) scDraw.nd rfl (Or.inl rfl) GS hr4 rfl mS kS bS (pa_cons (pv 4) (pa_cons (pv 3) pa_nil)))
      (ph_cons (ts := tRet (tLst (tCons (tUn (rU fun i => .int (-i)) (tC (.int 4))) tNil))) XS.c rfl XS.mC (fun _ => pss_one (ps_ret (pe_lst (pa_cons (pe_un un_neg pe_int) pa_nil)))) ph_nil))
    (pss_cons (ps_set (i := 6) scDraw.nd rfl (Or.inl rfl) (pe_call GT hr3 rfl mT kT bT .nil pass0 (pa_cons (pe_call GP hr5 rfl mP kP bP .nil pass0 (pa_cons (pv 4) (pa_cons (pv 5) (pa_cons (pe_call GC hr1 rfl mC kC bC .nil pass0 (pa_cons (pv 0) pa_nil)) (pa_cons (pv 1) pa_nil))))) pa_nil)))
    (pss_one (ps_ret (pe_op op_cat (pe_lst (pa_cons (pe_callB call_len_seq (by rfl) tL PySem.boot_len (pa_cons (pv 6) pa_nil)) pa_nil)) (pv 6)))))))), ?_⟩
  refine ⟨_, rfl, at_, _, rfl, .inl hT, _, _, rfl, rfl, _, rfl, ?_⟩
  rw [iv_len]
  refine ite2 (fun hc => ?_) (fun hc => ?_)
  · have hc : 65536 < t.length := by
      have : (65536 : Int) < ((t.length : Nat) : Int) := by simpa using hc
      omega
    refine ⟨_, rfl, (by show 1 ≤ sizeLine; decide), fun q hq => k _ q ?_⟩
    rw [upd_same]
    unfold drawO
    rw [if_pos hc]
    rfl
  · have hc : ¬ 65536 < t.length := fun z => hc (by
      have : (65536 : Int) < ((t.length : Nat) : Int) := by omega
      simpa using this)
    have ed : drawO light side t ns = match lockerI t with
      | none => [-6]
      | some x => if 1 < side then [-1] else match showI x.2 ns with
        | none => [-4]
        | some hs => (((textI (drawnM light side x.2 hs)).length : Nat) : Int) :: textI (drawnM light side x.2 hs) := by
      unfold drawO
      rw [if_neg hc]
    refine ⟨_, rfl, at_, t, rfl, hT, htl, fun x ex H1 l s1 e1 e2 hL hkl => ?_, fun en H1 s1 => ?_⟩
    · rw [ex] at ed
      dsimp only at ed
      have okk := locker_ok ex
      rw [← e2] at ed okk
      refine ⟨_, rfl, _, _, rfl, rfl, _, rfl, ite2 (fun hd => ?_) (fun hd => ?_)⟩
      · have hd : 1 < side := by
          have : ((side : Nat) : Int) > 1 := by simpa using hd
          omega
        rw [if_pos hd] at ed
        refine ⟨_, rfl, (by show 1 ≤ sizeLine; decide), fun q hq => k _ q ?_⟩
        rw [upd_same, ed]
        rfl
      · have hd : ¬ 1 < side := fun z => hd (by
          have : ((side : Nat) : Int) > 1 := by omega
          simpa using this)
        rw [if_neg hd] at ed
        refine ⟨_, rfl, _, rfl, l, as_, ns, rfl, hL, by omega, s1.seq hS, fun hs eh H2 p qs s2 hp h4 h8 => ?_, fun en H2 s2 => ?_⟩
        · rw [eh] at ed
          obtain ⟨hp0, hp1, pts, fr⟩ := hp
          have hlt := show_lt eh
          rw [List.length_map] at hlt
          refine ⟨_, rfl, _, rfl, _, rfl, light, rfl, fun H3 ac hN => ?_⟩
          have s3 := hN.1
          refine ⟨_, rfl, l, p, ac, qs, hs, classesI light, side, rfl, (hL.same s2).same s3, fun z hz => (okk z.m (List.mem_map_of_mem hz)).2, s3 _ _ hp1, pts.same s3, h4, h8, hlt, hN.2.2, classes16 light, fun H4 pl s4 em lies => ?_⟩
          have em : pl.m = drawnM light side (l.kinds.map KdA.m) hs := em
          have ok : PlOk pl.m := by
            rw [em]
            exact drawn_ok hd okk h4 h8 (fun x hx => by rw [List.length_map]; exact hlt x hx)
          refine ⟨pl, rfl, lies, ok, fun H5 tx hN5 => ?_⟩
          rw [em] at hN5
          have tlen : (textI (drawnM light side (l.kinds.map KdA.m) hs)).length ≤ 1000000 := by
            rw [em] at ok
            exact Nat.le_trans (text_len ok) (by decide)
          have ed : drawO light side t ns = (((textI (drawnM light side (l.kinds.map KdA.m) hs)).length : Nat) : Int) :: textI (drawnM light side (l.kinds.map KdA.m) hs) := ed
          generalize textI (drawnM light side (l.kinds.map KdA.m) hs) = tt at hN5 ed tlen
          refine ⟨_, rfl, tx, _, rfl, .inl (SqL.of hN5.2.2), (by show 1 ≤ sizeLine; decide), fun o ho => ?_⟩
          have htx : tx ≠ o := ne_of_none hN5.2.2 ho
          refine ⟨_, rfl, o, tx, _, _, rfl, rfl, upd_same, (by rw [upd_ne htx]; exact hN5.2.2), ?_, fun q hq => k _ q ?_⟩
          · have := line_ge tlen
            rw [iv_len, List.length_singleton]
            omega
          · rw [upd_same, ed, iv_len]
            rfl
        · rw [en] at ed
          refine ⟨CS, N2, rfl, XS.c, fun x H3 hdx fl => ⟨fun _ H4 fl4 => ?_, fun z => absurd rfl z⟩⟩
          refine ⟨_, rfl, (by show 1 ≤ sizeLine; decide), fun q hq => k _ q ?_⟩
          rw [upd_same, ed]
          rfl
    · rw [en] at ed
      refine ⟨CN, N, rfl, XN.c, fun x H3 hdx fl => ⟨fun _ H4 fl4 => ?_, fun z => absurd rfl z⟩⟩
      refine ⟨_, rfl, (by show 1 ≤ sizeLine; decide), fun q hq => k _ q ?_⟩
      rw [upd_same, ed]
      rfl
end
end HD
end
section
set_option Elab.async false
set_option linter.all false
set_option maxRecDepth 100000
set_option maxHeartbeats 2000000
namespace HD
open PySem JM
/-! ### the mathematics: words -/
theorem fin8 {p : Int → Bool} (h : ((List.range 256).all fun n => p ((n : Nat) : Int)) = true) {x : Int} (hx : 0 ≤ x ∧ x ≤ 255) : p x = true := by
  have := List.all_eq_true.mp h x.toNat (List.mem_range.mpr (by omega))
  rw [show ((x.toNat : Nat) : Int) = x by omega] at this
  exact this
theorem eqB {a : List Int} {x : Str} {s : String} (ha : In8 a) (hx : In8 (codes x)) (e : (codes x).map B = Flags.ascii s) : (a.map B = Flags.ascii s) ↔ a = codes x := by
  rw [← e]
  exact ⟨fun z => mapB_inj ha hx z, fun z => by rw [z]⟩
theorem in8_codes {x : Str} (h : (codes x).all (fun x => decide (0 ≤ x) && decide (x ≤ 255)) = true) : In8 (codes x) := in8_of h
theorem hexVal {x : Int} (h : 0 ≤ x ∧ x ≤ 255) : Flags.hexValue (B x) = if hexs.contains x = true then some (hexs.idxOf x) else none := by
  have := fin8 (p := fun x => decide (Flags.hexValue (B x) = if hexs.contains x = true then some (hexs.idxOf x) else none)) (by decide +kernel) h
  simpa using this
theorem signVal {x : Int} (h : 0 ≤ x ∧ x ≤ 255) : Flags.isSign (B x) = (codes nameSigns).contains x := by
  have := fin8 (p := fun x => decide (Flags.isSign (B x) = (codes nameSigns).contains x)) (by decide +kernel) h
  simpa using this
theorem mapM_hex : ∀ {l : List Int}, In8 l → (l.map B).mapM Flags.hexValue = if l.all (fun b => hexs.contains b) = true then some (l.map fun b => hexs.idxOf b) else none
  | [], _ => rfl
  | x :: r, h => by
    have ih := mapM_hex (l := r) fun z hz => h z (List.mem_cons_of_mem _ hz)
    rw [List.map_cons, List.mapM_cons, hexVal (h x List.mem_cons_self), ih, List.all_cons]
    by_cases h1 : hexs.contains x = true
    · rw [if_pos h1, h1, Bool.true_and]
      by_cases h2 : r.all (fun b => hexs.contains b) = true
      · rw [if_pos h2, if_pos h2]
        rfl
      · rw [if_neg h2, if_neg h2]
        rfl
    · rw [if_neg h1]
      have h1 : hexs.contains x = false := by simpa using h1
      rw [h1, Bool.false_and, if_neg Bool.false_ne_true]
      rfl
/-- a look of sixteen digits -/
def lookF (l : List Int) : Nat := Flags.lookOf fun i => (l.getD i 0).toNat
theorem look_eq {l : List Int} (h : In8 l) : Flags.lookIn (l.map B) = (coloursI l).map lookF := by
  unfold Flags.lookIn coloursI
  rw [List.length_map]
  by_cases e : l.length = 16
  · rw [if_neg (fun q => q e), if_pos e, mapM_hex h]
    unfold placesI
    by_cases h2 : l.all (fun b => hexs.contains b) = true
    · rw [if_pos h2, if_pos h2]
      refine congrArg (fun f => some (Flags.lookOf f)) (funext fun i => ?_)
      rw [List.getD_eq_getElem?_getD, List.getD_eq_getElem?_getD, List.getElem?_map, List.getElem?_map]
      cases l[i]? with
      | none => rfl
      | some x => rfl
    · rw [if_neg h2, if_neg h2]
      rfl
  · rw [if_pos e, if_neg e]
    rfl
theorem name_eq {l : List Int} (h : In8 l) : Flags.isName (l.map B) = isNameI l := by
  unfold Flags.isName isNameI
  rw [List.length_map, List.all_map]
  rw [show l.all (Flags.isSign ∘ B) = l.all fun b => (codes nameSigns).contains b from all_congr8 h fun x hx => signVal hx]
theorem digit_eq {l : List Int} (h : In8 l) (most : Nat) : Flags.digitOf most (l.map B) = (digitI l (most : Int)).map Int.toNat := by
  unfold Flags.digitOf digitI
  match l, h with
  | [], _ => rfl
  | [d], h =>
    have hd := h d List.mem_cons_self
    show (if 49 ≤ (B d).toNat ∧ (B d).toNat ≤ 48 + most then some ((B d).toNat - 48) else none) = Option.map Int.toNat (if d < 49 ∨ d > 48 + (most : Int) then none else some (d - 48))
    rw [toNat_B hd]
    by_cases c : d < 49 ∨ d > 48 + (most : Int)
    · rw [if_pos c, if_neg (by omega)]
      rfl
    · rw [if_neg c, if_pos (by omega)]
      show some _ = some _
      congr 1
      omega
  | a :: b :: r, _ => rfl
theorem among3 (a b c w : List Int) : amongI [a, b, c] w = if a = w then some 0 else if b = w then some 1 else if c = w then some 2 else none := by
  unfold amongI
  rw [List.findIdx?_cons]
  by_cases h1 : a = w
  · simp [h1]
  · rw [if_neg h1, show decide (a = w) = false from decide_eq_false h1, List.findIdx?_cons]
    by_cases h2 : b = w
    · simp [h2]
    · rw [if_neg h2, show decide (b = w) = false from decide_eq_false h2, List.findIdx?_cons]
      by_cases h3 : c = w
      · simp [h3]
      · rw [if_neg h3, show decide (c = w) = false from decide_eq_false h3]
        rfl
theorem shape_eq {w : List Int} (h : In8 w) : Flags.shapeOf (w.map B) = amongI (shapesW.map codes) w := by
  unfold Flags.shapeOf
  show _ = amongI [codes "square", codes "tails", codes "long"] w
  rw [among3]
  have e1 := eqB (a := w) (x := "square") (s := "square") h (in8_codes (by decide +kernel)) (by decide +kernel)
  have e2 := eqB (a := w) (x := "tails") (s := "tails") h (in8_codes (by decide +kernel)) (by decide +kernel)
  have e3 := eqB (a := w) (x := "long") (s := "long") h (in8_codes (by decide +kernel)) (by decide +kernel)
  by_cases c1 : w = codes "square"
  · rw [if_pos (e1.mpr c1), if_pos c1.symm]
  · rw [if_neg (fun z => c1 (e1.mp z)), if_neg (fun z : codes "square" = w => c1 z.symm)]
    by_cases c2 : w = codes "tails"
    · rw [if_pos (e2.mpr c2), if_pos c2.symm]
    · rw [if_neg (fun z => c2 (e2.mp z)), if_neg (fun z : codes "tails" = w => c2 z.symm)]
      by_cases c3 : w = codes "long"
      · rw [if_pos (e3.mpr c3), if_pos c3.symm]
      · rw [if_neg (fun z => c3 (e3.mp z)), if_neg (fun z : codes "long" = w => c3 z.symm)]
/-! ### a kind -/
def roleF (m : KdM) : Flags.Role := if m.role = 0 then .sign (m.name.map B) else if m.role = 1 then .same m.which.toNat else .answer
def kindF (m : KdM) : Flags.Kind := ⟨roleF m, m.copies.toNat, m.shape, lookF m.look⟩
theorem kindOf_eq {r : Nat} {n : List Int} {wh : Int} {c s l : List Int} (hc : In8 c) (hs : In8 s) (hl : In8 l) (R : Flags.Role) (hR : ∀ a b d, roleF ⟨r, n, wh, a, b, d⟩ = R) :
    Flags.kindOf R (c.map B) (s.map B) (l.map B) = (kind5 r (some n) (some wh) (digitI c 8) (amongI (shapesW.map codes) s) (coloursI l)).map kindF := by
  unfold Flags.kindOf
  rw [show Flags.digitOf 8 (c.map B) = (digitI c 8).map Int.toNat from digit_eq hc 8, shape_eq hs, look_eq hl]
  cases e1 : digitI c 8 with
  | none => rw [kind5_3]; cases amongI (shapesW.map codes) s <;> cases coloursI l <;> rfl
  | some a =>
    cases e2 : amongI (shapesW.map codes) s with
    | none => rw [kind5_4]; cases coloursI l <;> rfl
    | some b =>
      cases e3 : coloursI l with
      | none => rw [kind5_5]; rfl
      | some d =>
        show some _ = some (kindF ⟨r, n, wh, a, b, d⟩)
        unfold kindF
        rw [hR]
theorem kind_eq {line : List Int} (h : In8 line) : Flags.kindIn (line.map B) = (kindI line).map kindF := by
  unfold Flags.kindIn kindI
  rw [show Flags.cutAt 32 (line.map B) = (cutI 32 line).map (·.map B) from cut_map 32 (by decide) line h]
  have hin := cut_in 32 (l := line) h
  generalize cutI 32 line = ws at hin
  have rm : ∀ w : List Int, amongI (rolesW.map codes) w = if codes "sign" = w then some 0 else if codes "same" = w then some 1 else if codes "answer" = w then some 2 else none := fun w => among3 _ _ _ w
  have d1 : ¬ codes "sign" = codes "same" := by decide +kernel
  have d2 : ¬ codes "sign" = codes "answer" := by decide +kernel
  have d3 : ¬ codes "same" = codes "answer" := by decide +kernel
  have short : ∀ v : List (List Int), v.length ≠ 4 → v.length ≠ 5 → kindW v = none := fun v h4 h5 => by
    unfold kindW
    split
    · rfl
    · rename_i r _
      rw [if_neg]
      by_cases z : r = 2
      · rw [if_pos z]; exact h4
      · rw [if_neg z]; exact h5
  match ws, hin with
  | [], _ => rw [short [] (by decide) (by decide)]; rfl
  | [a], _ => rw [short [a] (by simp) (by simp)]; rfl
  | [a, b], _ => rw [short [a, b] (by simp) (by simp)]; rfl
  | [a, b, c], _ => rw [short [a, b, c] (by simp) (by simp)]; rfl
  | [a, c, s, l], hin =>
    have ha := hin a (by simp)
    have ea := eqB (a := a) (x := "answer") (s := "answer") ha (in8_codes (by decide +kernel)) (by decide +kernel)
    show (if a.map B = Flags.ascii "answer" then Flags.kindOf .answer (c.map B) (s.map B) (l.map B) else none) = _
    have ek : kindW [a, c, s, l] = if codes "answer" = a then kind5 2 (some []) (some 0) (digitI c 8) (amongI (shapesW.map codes) s) (coloursI l) else none := by
      unfold kindW
      rw [show ([a, c, s, l] : List (List Int)).getD 0 [] = a from rfl, rm a]
      by_cases c1 : codes "sign" = a
      · rw [if_pos c1, if_neg (fun z => d2 (c1.trans z.symm))]
        rfl
      · rw [if_neg c1]
        by_cases c2 : codes "same" = a
        · rw [if_pos c2, if_neg (fun z => d3 (c2.trans z.symm))]
          rfl
        · rw [if_neg c2]
          by_cases c3 : codes "answer" = a
          · rw [if_pos c3, if_pos c3]
            rfl
          · rw [if_neg c3, if_neg c3]
    rw [ek]
    by_cases c3 : a = codes "answer"
    · rw [if_pos (ea.mpr c3), if_pos c3.symm]
      exact kindOf_eq (hin c (by simp)) (hin s (by simp)) (hin l (by simp)) .answer fun _ _ _ => rfl
    · rw [if_neg (fun z => c3 (ea.mp z)), if_neg (fun z : codes "answer" = a => c3 z.symm)]
      rfl
  | [a, n, c, s, l], hin =>
    have ha := hin a (by simp)
    have hn := hin n (by simp)
    have e1 := eqB (a := a) (x := "sign") (s := "sign") ha (in8_codes (by decide +kernel)) (by decide +kernel)
    have e2 := eqB (a := a) (x := "same") (s := "same") ha (in8_codes (by decide +kernel)) (by decide +kernel)
    show (if a.map B = Flags.ascii "sign" ∧ Flags.isName (n.map B) = true then Flags.kindOf (.sign (n.map B)) (c.map B) (s.map B) (l.map B) else if a.map B = Flags.ascii "same" then (Flags.digitOf 4 (n.map B)).bind (fun (j : Nat) => Flags.kindOf (.same j) (c.map B) (s.map B) (l.map B)) else none) = _
    have ek : kindW [a, n, c, s, l] = if codes "sign" = a then kind5 0 (nmI 0 n) (some 0) (digitI c 8) (amongI (shapesW.map codes) s) (coloursI l) else if codes "same" = a then kind5 1 (some []) (digitI n 4) (digitI c 8) (amongI (shapesW.map codes) s) (coloursI l) else none := by
      unfold kindW
      rw [show ([a, n, c, s, l] : List (List Int)).getD 0 [] = a from rfl, rm a]
      by_cases c1 : codes "sign" = a
      · rw [if_pos c1, if_pos c1]
        rfl
      · rw [if_neg c1, if_neg c1]
        by_cases c2 : codes "same" = a
        · rw [if_pos c2, if_pos c2]
          rfl
        · rw [if_neg c2, if_neg c2]
          by_cases c3 : codes "answer" = a
          · rw [if_pos c3]
            rfl
          · rw [if_neg c3]
    rw [ek, name_eq hn]
    by_cases c1 : a = codes "sign"
    · rw [if_pos c1.symm]
      by_cases c4 : isNameI n = true
      · rw [if_pos ⟨e1.mpr c1, c4⟩, show nmI 0 n = some n by unfold nmI; rw [if_pos rfl, if_pos c4]]
        exact kindOf_eq (hin c (by simp)) (hin s (by simp)) (hin l (by simp)) (.sign (n.map B)) fun _ _ _ => rfl
      · rw [if_neg (fun z => c4 z.2), if_neg (fun z => d1 (c1.symm.trans (e2.mp z))), show nmI 0 n = none by unfold nmI; rw [if_pos rfl, if_neg c4], kind5_1]
        rfl
    · rw [if_neg (fun z : _ ∧ _ => c1 (e1.mp z.1)), if_neg (fun z : codes "sign" = a => c1 z.symm)]
      by_cases c2 : a = codes "same"
      · rw [if_pos (e2.mpr c2), if_pos c2.symm, show Flags.digitOf 4 (n.map B) = (digitI n 4).map Int.toNat from digit_eq hn 4]
        cases e : digitI n 4 with
        | none => rw [kind5_2]; rfl
        | some j =>
          exact kindOf_eq (hin c (by simp)) (hin s (by simp)) (hin l (by simp)) (.same j.toNat) fun _ _ _ => rfl
      · rw [if_neg (fun z => c2 (e2.mp z)), if_neg (fun z : codes "same" = a => c2 z.symm)]
        rfl
  | a :: b :: c :: d :: e :: g :: r, _ => rw [short _ (by simp) (by simp)]; rfl
end HD
end
section
set_option Elab.async false
set_option linter.all false
set_option maxRecDepth 100000
set_option maxHeartbeats 2000000
namespace HD
open PySem JM
/-! ### digits of a look -/
def digs : List Nat → Nat
  | [] => 0
  | d :: r => d % 16 + 16 * digs r
theorem digs_snoc (x : Nat) : ∀ l : List Nat, digs (l ++ [x]) = digs l + 16 ^ l.length * (x % 16)
  | [] => by simp [digs]
  | d :: r => by
    show d % 16 + 16 * digs (r ++ [x]) = d % 16 + 16 * digs r + 16 ^ (r.length + 1) * (x % 16)
    rw [digs_snoc x r, Nat.mul_add, Nat.pow_succ, ← Nat.mul_assoc, Nat.mul_comm 16 (16 ^ r.length)]
    omega
theorem sum_digs (f : Nat → Nat) : ∀ n, ((List.range n).map fun i => f i % 16 * 16 ^ i).sum = digs ((List.range n).map f)
  | 0 => rfl
  | n + 1 => by
    rw [List.range_succ, List.map_append, List.map_append, List.sum_append, sum_digs f n]
    show _ + (f n % 16 * 16 ^ n + 0) = digs (_ ++ [f n])
    rw [digs_snoc, List.length_map, List.length_range, Nat.mul_comm (16 ^ n)]
    omega
theorem digs_at : ∀ (i : Nat) (l : List Nat), digs l / 16 ^ i % 16 = l.getD i 0 % 16
  | i, [] => by simp [digs]
  | 0, d :: r => by
    show (d % 16 + 16 * digs r) / 16 ^ 0 % 16 = d % 16
    rw [Nat.pow_zero, Nat.div_one]
    omega
  | i + 1, d :: r => by
    show (d % 16 + 16 * digs r) / 16 ^ (i + 1) % 16 = r.getD i 0 % 16
    rw [Nat.pow_succ', ← Nat.div_div_eq_div_mul, show (d % 16 + 16 * digs r) / 16 = digs r by omega]
    exact digs_at i r
theorem cell_lookOf (f : Nat → Nat) {i : Nat} (h : i < 16) : Flags.cell (Flags.lookOf f) i = f i % 16 := by
  unfold Flags.cell Flags.lookOf
  rw [sum_digs, digs_at, List.getD_eq_getElem?_getD, List.getElem?_map, List.getElem?_range h]
  rfl
theorem cell_lookF {l : List Int} (h : lookOk l) {i : Nat} (hi : i < 16) : Flags.cell (lookF l) i = (l.getD i 0).toNat := by
  unfold lookF
  rw [cell_lookOf _ hi]
  obtain ⟨h0, h1⟩ := h.2 _ (getD_mem (l := l) (i := i) (by rw [h.1]; exact hi))
  omega
theorem lookF_inj {a b : List Int} (ha : lookOk a) (hb : lookOk b) (e : lookF a = lookF b) : a = b := by
  apply List.ext_getElem?
  intro i
  by_cases hi : i < 16
  · have h1 := cell_lookF ha hi
    have h2 := cell_lookF hb hi
    rw [e, h2] at h1
    have ga := ha.2 _ (getD_mem (l := a) (i := i) (by rw [ha.1]; exact hi))
    have gb := hb.2 _ (getD_mem (l := b) (i := i) (by rw [hb.1]; exact hi))
    have : a.getD i 0 = b.getD i 0 := by omega
    rw [List.getD_eq_getElem?_getD, List.getD_eq_getElem?_getD, List.getElem?_eq_getElem (by rw [ha.1]; exact hi), List.getElem?_eq_getElem (by rw [hb.1]; exact hi)] at this
    rw [List.getElem?_eq_getElem (by rw [ha.1]; exact hi), List.getElem?_eq_getElem (by rw [hb.1]; exact hi)]
    exact congrArg some this
  · rw [List.getElem?_eq_none (by rw [ha.1]; omega), List.getElem?_eq_none (by rw [hb.1]; omega)]
/-! ### kinds that are read -/
structure Kv (m : KdM) : Prop where
  role : m.role < 3
  wh0 : m.role ≠ 1 → m.which = 0
  wh1 : m.role = 1 → 1 ≤ m.which ∧ m.which ≤ 4
  nm : In8 m.name
  lk : lookOk m.look
  sh : m.shape < 3
  cp : 1 ≤ m.copies ∧ m.copies ≤ 8
theorem digit_in {w : List Int} {most d : Int} (h : digitI w most = some d) : 1 ≤ d ∧ d ≤ most := by
  unfold digitI at h
  split at h
  · split at h
    · cases h
    · have := Option.some.inj h
      omega
  · cases h
theorem kv_of {line : List Int} (hin : In8 line) {m : KdM} (h : kindI line = some m) : Kv m := by
  obtain ⟨hsh, hlk⟩ := kind_ok h
  unfold kindI kindW at h
  have h8 := cut_in 32 (l := line) hin
  generalize cutI 32 line = ws at h h8
  split at h
  · cases h
  · rename_i r er
    have hr : r < 3 := among_lt er
    by_cases hl : ws.length = (if r = 2 then 4 else 5)
    · rw [if_pos hl] at h
      have hw1 : In8 (ws.getD 1 []) := by
        rw [List.getD_eq_getElem?_getD]
        cases e : ws[1]? with
        | none => exact fun x hx => absurd hx (by simp)
        | some w => exact h8 w (List.mem_of_getElem? e)
      cases e1 : nmI r (ws.getD 1 []) with
      | none => rw [e1, kind5_1] at h; cases h
      | some n =>
        cases e2 : whI r (ws.getD 1 []) with
        | none => rw [e2, kind5_2] at h; cases h
        | some wh =>
          cases e3 : digitI (ws.getD (ws.length - 3) []) 8 with
          | none => rw [e3, kind5_3] at h; cases h
          | some c =>
            cases e4 : amongI (shapesW.map codes) (ws.getD (ws.length - 2) []) with
            | none => rw [e4, kind5_4] at h; cases h
            | some sh =>
              cases e5 : coloursI (ws.getD (ws.length - 1) []) with
              | none => rw [e5, kind5_5] at h; cases h
              | some lk =>
                rw [e1, e2, e3, e4, e5] at h
                have := Option.some.inj h
                subst this
                refine ⟨hr, fun z => ?_, fun z => ?_, ?_, hlk, hsh, digit_in e3⟩
                · unfold whI at e2
                  rw [if_neg z] at e2
                  exact (Option.some.inj e2).symm
                · unfold whI at e2
                  rw [if_pos z] at e2
                  exact digit_in e2
                · unfold nmI at e1
                  split at e1
                  · split at e1
                    · rw [← Option.some.inj e1]; exact hw1
                    · cases e1
                  · rw [← Option.some.inj e1]
                    exact fun x hx => absurd hx (by simp)
    · rw [if_neg hl] at h
      cases h
theorem kvs_of : ∀ {r : List (List Int)} {ms : List KdM}, (∀ l ∈ r, In8 l) → kindsI r = some ms → ∀ m ∈ ms, Kv m
  | [], ms, _, h, m, hm => by
    have := Option.some.inj h
    subst this
    exact absurd hm (by simp)
  | l :: r, ms, h8, h, m, hm => by
    unfold kindsI at h
    cases e1 : kindI l with
    | none => rw [e1] at h; cases kindsI r <;> cases h
    | some k =>
      rw [e1] at h
      cases e2 : kindsI r with
      | none => rw [e2] at h; cases h
      | some ks =>
        rw [e2] at h
        have := Option.some.inj h
        subst this
        rcases List.mem_cons.mp hm with rfl | hm
        · exact kv_of (h8 l (by simp)) e1
        · exact kvs_of (fun z hz => h8 z (List.mem_cons_of_mem _ hz)) e2 m hm
/-! ### what may follow -/
theorem follow0 {p x : KdM} (kp : Kv p) (kx : Kv x) (h : x.role = 0) : followI p x = true ↔ p.role = 0 := by
  unfold followI
  by_cases c : p.role = 0 ∧ x.role = 0
  · rw [if_pos c]; exact ⟨fun _ => c.1, fun _ => rfl⟩
  · rw [if_neg c, HT.lexLt_cons]
    have hp : ¬ p.role = 0 := fun z => c ⟨z, h⟩
    rw [if_neg (by omega)]
    rw [decide_eq_true_eq]
    omega
theorem follow1 {p x : KdM} (kp : Kv p) (kx : Kv x) (h : x.role = 1) : followI p x = true ↔ p.role = 0 ∨ (p.role = 1 ∧ p.which < x.which) := by
  unfold followI
  rw [if_neg (fun z => by omega), HT.lexLt_cons]
  by_cases c : ((p.role : Nat) : Int) = ((x.role : Nat) : Int)
  · rw [if_pos c, HT.lexLt_cons]
    by_cases d : p.which = x.which
    · rw [if_pos d]
      constructor
      · intro z; cases z
      · intro z; omega
    · rw [if_neg d, decide_eq_true_eq]
      omega
  · rw [if_neg c, decide_eq_true_eq]
    have := kp.role
    omega
theorem follow2 {p x : KdM} (kp : Kv p) (kx : Kv x) (h : x.role = 2) : followI p x = true ↔ ¬ p.role = 2 := by
  unfold followI
  have h1 := kx.wh0 (by omega)
  rw [if_neg (fun z => by omega), HT.lexLt_cons]
  by_cases c : ((p.role : Nat) : Int) = ((x.role : Nat) : Int)
  · have h2 := kp.wh0 (by omega)
    rw [if_pos c, HT.lexLt_cons, if_pos (by rw [h1, h2])]
    constructor
    · intro z; cases z
    · intro z; omega
  · rw [if_neg c, decide_eq_true_eq]
    have := kp.role
    omega
theorem follow_trans {a b c : KdM} (ka : Kv a) (kb : Kv b) (kc : Kv c) (h1 : followI a b = true) (h2 : followI b c = true) : followI a c = true := by
  have hb := kb.role
  have hc := kc.role
  have ra : b.role = 0 ∨ b.role = 1 ∨ b.role = 2 := by omega
  have rc : c.role = 0 ∨ c.role = 1 ∨ c.role = 2 := by omega
  rcases rc with rc | rc | rc
  · rw [follow0 kb kc rc] at h2
    rw [follow0 ka kb h2] at h1
    rw [follow0 ka kc rc]
    exact h1
  · rw [follow1 kb kc rc] at h2
    rw [follow1 ka kc rc]
    rcases h2 with h2 | ⟨h2, h3⟩
    · rw [follow0 ka kb h2] at h1
      exact .inl h1
    · rw [follow1 ka kb h2] at h1
      rcases h1 with h1 | ⟨h1, h4⟩
      · exact .inl h1
      · exact .inr ⟨h1, by omega⟩
  · rw [follow2 kb kc rc] at h2
    rw [follow2 ka kc rc]
    rcases ra with ra | ra | ra
    · rw [follow0 ka kb ra] at h1
      omega
    · rw [follow1 ka kb ra] at h1
      omega
    · exact absurd ra h2
theorem chain_pw : ∀ {ms : List KdM}, (∀ m ∈ ms, Kv m) → (((ms.zip (ms.drop 1)).all fun p => followI p.1 p.2) = true ↔ ms.Pairwise fun p x => followI p x = true)
  | [], _ => by simp
  | [a], _ => by simp
  | a :: b :: r, h => by
    have ih := chain_pw (ms := b :: r) fun m hm => h m (List.mem_cons_of_mem _ hm)
    have ez : (a :: b :: r).zip ((a :: b :: r).drop 1) = (a, b) :: (b :: r).zip ((b :: r).drop 1) := rfl
    rw [ez, List.all_cons, Bool.and_eq_true, ih, List.pairwise_cons (a := a)]
    constructor
    · rintro ⟨h1, h2⟩
      refine ⟨fun y hy => ?_, h2⟩
      rcases List.mem_cons.mp hy with rfl | hy
      · exact h1
      · exact follow_trans (h a (by simp)) (h b (by simp)) (h y (by simp [hy])) h1 ((List.pairwise_cons.mp h2).1 y hy)
    · rintro ⟨h1, h2⟩
      exact ⟨h1 b (by simp), h2⟩
/-! ### pairs by place -/
theorem pw_place {α : Type} {R : α → α → Prop} : ∀ {l : List α}, l.Pairwise R ↔ ∀ (i : Nat) x, l[i]? = some x → ∀ p ∈ l.take i, R p x
  | [] => by simp
  | a :: r => by
    rw [List.pairwise_cons, pw_place (l := r)]
    constructor
    · rintro ⟨h1, h2⟩ i x hx p hp
      cases i with
      | zero => simp at hp
      | succ i =>
        rw [List.take_succ_cons] at hp
        rcases List.mem_cons.mp hp with rfl | hp
        · exact h1 x (List.mem_of_getElem? (show r[i]? = some x from hx))
        · exact h2 i x hx p hp
    · intro h
      refine ⟨fun x hx => ?_, fun i x hx p hp => h (i + 1) x hx p (by rw [List.take_succ_cons]; exact List.mem_cons_of_mem _ hp)⟩
      obtain ⟨i, hi, e⟩ := List.getElem_of_mem hx
      exact h (i + 1) x (by show r[i]? = some x; rw [List.getElem?_eq_getElem hi, e]) a (by rw [List.take_succ_cons]; simp)
theorem twice_pw {ds : List PyData} : twiceI ds = false ↔ ds.Pairwise fun d e => PyData.eqv d e = false := by
  rw [pw_place]
  unfold twiceI
  rw [List.any_eq_false]
  constructor
  · intro h i x hx p hp
    have hi := (List.getElem?_eq_some_iff.mp hx).1
    have := h i (List.mem_range.mpr hi)
    unfold twAt at this
    rw [getD_at hx] at this
    have := List.any_eq_false.mp (by simpa using this) p hp
    simpa using this
  · intro h i hi
    have hi := List.mem_range.mp hi
    obtain ⟨x, hx⟩ : ∃ x, ds[i]? = some x := ⟨_, List.getElem?_eq_getElem hi⟩
    have := h i x hx
    unfold twAt
    rw [getD_at hx]
    simp only [Bool.not_eq_true]
    rw [List.any_eq_false]
    intro p hp
    rw [this p hp]
    decide
theorem eqv_nm (a b : KdM) : PyData.eqv (nmD a) (nmD b) = decide (a.name = b.name) := L2.eqvAll_ints _ _
theorem eqv_fc (a b : KdM) : PyData.eqv (fcD a) (fcD b) = (decide (a.shape = b.shape) && decide (a.look = b.look)) := by
  unfold fcD
  simp only [PyData.eqv, PyData.eqvAll, L2.eqvAll_ints, Bool.and_true]
  congr 1
  by_cases h : a.shape = b.shape
  · rw [h]; simp
  · rw [decide_eq_false h]
    simp
    omega
end HD
end
section
set_option Elab.async false
set_option linter.all false
set_option maxRecDepth 100000
set_option maxHeartbeats 2000000
namespace HD
open PySem JM
/-! ### what's wrong with a kind behind others -/
def badName (p x : KdM) : Prop := p.role = 0 ∧ x.role = 0 ∧ p.name = x.name
def badFace (p x : KdM) : Prop := p.shape = x.shape ∧ p.look = x.look
def fitsBehind (ps : List KdM) (x : KdM) : Prop := (∀ p ∈ ps, followI p x = true ∧ ¬ badName p x ∧ ¬ badFace p x) ∧ (x.role = 0 → ps.length < 48)
theorem four {A B C D : Bool} {w x y z : Nat} : (if A = true then some w else if B = true then some x else if C = true then some y else if D = true then some z else none) = none ↔ A = false ∧ B = false ∧ C = false ∧ D = false := by
  cases A <;> cases B <;> cases C <;> cases D <;> simp
theorem isSign_F (m : KdM) : (kindF m).isSign = decide (m.role = 0) := by
  unfold kindF Flags.Kind.isSign roleF
  by_cases h : m.role = 0
  · simp [h]
  · by_cases h1 : m.role = 1
    · simp [h1]
    · simp [h, h1]
theorem role0 {m : KdM} (h : m.role = 0) : (kindF m).role = .sign (m.name.map B) := by show roleF m = _; unfold roleF; rw [if_pos h]
theorem role1 {m : KdM} (h : m.role = 1) : (kindF m).role = .same m.which.toNat := by show roleF m = _; unfold roleF; rw [if_neg (by omega), if_pos h]
theorem role2 {m : KdM} (k : Kv m) (h : m.role = 2) : (kindF m).role = .answer := by show roleF m = _; unfold roleF; rw [if_neg (by omega), if_neg (by omega)]
theorem any_F {ps : List KdM} {f : Flags.Kind → Bool} : ((ps.map kindF).any f = false) ↔ ∀ p ∈ ps, f (kindF p) = false := by
  rw [List.any_eq_false]
  constructor
  · intro h p hp
    have := h (kindF p) (List.mem_map_of_mem hp)
    simpa using this
  · intro h x hx
    obtain ⟨p, hp, rfl⟩ := List.mem_map.mp hx
    rw [h p hp]
    decide
theorem face_F {p x : KdM} (kp : Kv p) (kx : Kv x) : ((kindF p).shape == (kindF x).shape && (kindF p).look == (kindF x).look) = false ↔ ¬ badFace p x := by
  show (p.shape == x.shape && lookF p.look == lookF x.look) = false ↔ _
  unfold badFace
  by_cases h : p.shape = x.shape
  · by_cases h2 : p.look = x.look
    · simp [h, h2]
    · have h3 : ¬ lookF p.look = lookF x.look := fun z => h2 (lookF_inj kp.lk kx.lk z)
      simp [h2, h3]
  · simp [h]
theorem wrong_iff {ps : List KdM} {x : KdM} (kp : ∀ p ∈ ps, Kv p) (kx : Kv x) : Flags.wrongBehind (ps.map kindF) (kindF x) = none ↔ fitsBehind ps x := by
  unfold Flags.wrongBehind
  rw [four, any_F]
  have hr := kx.role
  have rx : x.role = 0 ∨ x.role = 1 ∨ x.role = 2 := by omega
  rcases rx with rx | rx | rx
  · rw [role0 rx, isSign_F]
    dsimp only
    rw [any_F, any_F, List.length_map, decide_eq_true rx, Bool.true_and]
    unfold fitsBehind
    constructor
    · rintro ⟨h1, h2, h3, h4⟩
      refine ⟨fun p hp => ⟨?_, fun z => ?_, (face_F (kp p hp) kx).mp (h4 p hp)⟩, fun _ => ?_⟩
      · rw [follow0 (kp p hp) kx rx]
        have := h1 p hp
        rw [isSign_F] at this
        simpa using this
      · have := h2 p hp
        rw [role0 z.1, z.2.2] at this
        simp at this
      · have : ¬ Flags.SIGNS ≤ ps.length := by simpa using h3
        have e : Flags.SIGNS = 48 := rfl
        omega
    · rintro ⟨h1, h2⟩
      refine ⟨fun p hp => ?_, fun p hp => ?_, ?_, fun p hp => (face_F (kp p hp) kx).mpr (h1 p hp).2.2⟩
      · have := (follow0 (kp p hp) kx rx).mp (h1 p hp).1
        rw [isSign_F, this]
        rfl
      · have p0 := (follow0 (kp p hp) kx rx).mp (h1 p hp).1
        rw [role0 p0]
        have hn := (h1 p hp).2.1
        rw [beq_eq_false_iff_ne]
        intro z
        injection z with z
        exact hn ⟨p0, rx, mapB_inj (kp p hp).nm kx.nm z⟩
      · have := h2 rx
        have e : Flags.SIGNS = 48 := rfl
        rw [decide_eq_false_iff_not]
        omega
  · rw [role1 rx, isSign_F]
    dsimp only
    rw [any_F, any_F, decide_eq_false (by omega : ¬ x.role = 0), Bool.false_and]
    unfold fitsBehind
    have hx := kx.wh1 rx
    constructor
    · rintro ⟨h1, h2, h3, h4⟩
      refine ⟨fun p hp => ⟨?_, fun z => ?_, (face_F (kp p hp) kx).mp (h4 p hp)⟩, fun z => ?_⟩
      · rw [follow1 (kp p hp) kx rx]
        have hp3 := (kp p hp).role
        have rp : p.role = 0 ∨ p.role = 1 ∨ p.role = 2 := by omega
        rcases rp with rp | rp | rp
        · exact .inl rp
        · refine .inr ⟨rp, ?_⟩
          have := h2 p hp
          rw [role1 rp] at this
          have := of_decide_eq_false this
          have := (kp p hp).wh1 rp
          omega
        · have := h1 p hp
          rw [role2 (kp p hp) rp] at this
          simp at this
      · have := z.2.1
        omega
      · omega
    · rintro ⟨h1, h2⟩
      refine ⟨fun p hp => ?_, fun p hp => ?_, rfl, fun p hp => (face_F (kp p hp) kx).mpr (h1 p hp).2.2⟩
      · rcases (follow1 (kp p hp) kx rx).mp (h1 p hp).1 with z | z
        · rw [role0 z]; rfl
        · rw [role1 z.1]; rfl
      · rcases (follow1 (kp p hp) kx rx).mp (h1 p hp).1 with z | z
        · rw [role0 z]
        · rw [role1 z.1]
          have := (kp p hp).wh1 z.1
          exact decide_eq_false (by omega)
  · rw [role2 kx rx, isSign_F]
    dsimp only
    rw [any_F, decide_eq_false (by omega : ¬ x.role = 0), Bool.false_and]
    unfold fitsBehind
    constructor
    · rintro ⟨h1, h2, h3, h4⟩
      refine ⟨fun p hp => ⟨?_, fun z => ?_, (face_F (kp p hp) kx).mp (h4 p hp)⟩, fun z => ?_⟩
      · rw [follow2 (kp p hp) kx rx]
        intro rp
        have := h1 p hp
        rw [role2 (kp p hp) rp] at this
        simp at this
      · have := z.2.1
        omega
      · omega
    · rintro ⟨h1, h2⟩
      refine ⟨fun p hp => ?_, rfl, rfl, fun p hp => (face_F (kp p hp) kx).mpr (h1 p hp).2.2⟩
      have z := (follow2 (kp p hp) kx rx).mp (h1 p hp).1
      have hp3 := (kp p hp).role
      have rp : p.role = 0 ∨ p.role = 1 := by omega
      rcases rp with rp | rp
      · rw [role0 rp]; rfl
      · rw [role1 rp]; rfl
/-! ### lines judged -/
def seqOk : List KdM → List KdM → Prop
  | _, [] => True
  | past, x :: r => fitsBehind past x ∧ seqOk (past ++ [x]) r
def hasSign (ms : List KdM) : Prop := ∃ m ∈ ms, m.role = 0
theorem all_nosign {ms : List KdM} : ((ms.map kindF).all fun (k : Flags.Kind) => !k.isSign) = true ↔ ¬ hasSign ms := by
  rw [List.all_map, List.all_eq_true]
  unfold hasSign
  constructor
  · rintro h ⟨m, hm, e⟩
    have := h m hm
    simp only [Function.comp_apply, isSign_F, e] at this
    simp at this
  · intro h m hm
    have : ¬ m.role = 0 := fun e => h ⟨m, hm, e⟩
    simp only [Function.comp_apply, isSign_F]
    simp [this]
def goodLines (past : List KdM) (ls : List (List Int)) (z : List Int) : Prop := z = [] ∧ ∃ ms, kindsI ls = some ms ∧ seqOk past ms ∧ hasSign (past ++ ms)
theorem lines_eq : ∀ (ls : List (List Int)) (z : List Int) (i : Nat) (past : List KdM), (∀ l ∈ ls, In8 l) → (∀ p ∈ past, Kv p) →
    (∀ ms, z = [] → kindsI ls = some ms → seqOk past ms → hasSign (past ++ ms) → Flags.judgeLines i (past.map kindF) ((ls ++ [z]).map (·.map B)) = .ok ((past ++ ms).map kindF)) ∧ (¬ goodLines past ls z → ∃ e, Flags.judgeLines i (past.map kindF) ((ls ++ [z]).map (·.map B)) = .error e)
  | [], z, i, past, _, kp => by
    have e : Flags.judgeLines i (past.map kindF) (([] ++ [z] : List (List Int)).map (·.map B)) = if z.map B ≠ [] ∨ ((past.map kindF).all fun (k : Flags.Kind) => !k.isSign) = true then .error (1, i) else .ok (past.map kindF) := rfl
    rw [e]
    constructor
    · intro ms hz hk _ hs
      have := Option.some.inj hk
      subst this
      rw [List.append_nil] at hs ⊢
      rw [if_neg]
      rintro (h | h)
      · exact h (by rw [hz]; rfl)
      · exact (all_nosign.mp h) hs
    · intro h
      rw [if_pos]
      · exact ⟨_, rfl⟩
      · by_cases hz : z = []
        · right
          rw [all_nosign]
          intro hs
          exact h ⟨hz, [], rfl, trivial, by rw [List.append_nil]; exact hs⟩
        · left
          intro q
          exact hz (List.map_eq_nil_iff.mp q)
  | w :: r, z, i, past, h8, kp => by
    obtain ⟨y, r', er⟩ : ∃ y r', (r ++ [z]).map (·.map B) = y :: r' := by
      cases r with
      | nil => exact ⟨_, _, rfl⟩
      | cons a b => exact ⟨_, _, rfl⟩
    have e : Flags.judgeLines i (past.map kindF) (((w :: r) ++ [z]).map (·.map B)) = match Flags.kindIn (w.map B) with
        | none => .error (1, i)
        | some x => match Flags.wrongBehind (past.map kindF) x with
          | some e => .error (e, i)
          | none => Flags.judgeLines (i + 1) (past.map kindF ++ [x]) ((r ++ [z]).map (·.map B)) := by
      show Flags.judgeLines i (past.map kindF) (w.map B :: (r ++ [z]).map (·.map B)) = _
      rw [er]
      rfl
    rw [e, kind_eq (h8 w (by simp))]
    have hr8 : ∀ l ∈ r, In8 l := fun l hl => h8 l (List.mem_cons_of_mem _ hl)
    cases ek : kindI w with
    | none =>
      refine ⟨fun ms _ hk => ?_, fun _ => ⟨_, rfl⟩⟩
      rw [kinds_none (l := w) (by simp) ek] at hk
      cases hk
    | some x =>
      have kx : Kv x := kv_of (h8 w (by simp)) ek
      have kpx : ∀ p ∈ past ++ [x], Kv p := fun p hp => by
        rcases List.mem_append.mp hp with hp | hp
        · exact kp p hp
        · rw [List.mem_singleton.mp hp]; exact kx
      obtain ⟨ih1, ih2⟩ := lines_eq r z (i + 1) (past ++ [x]) hr8 kpx
      rw [List.map_append] at ih1 ih2
      have eks : ∀ ms, kindsI (w :: r) = some ms → ∃ ms', kindsI r = some ms' ∧ ms = x :: ms' := fun ms hk => by
        unfold kindsI at hk
        rw [ek] at hk
        cases e2 : kindsI r with
        | none => rw [e2] at hk; cases hk
        | some ks =>
          rw [e2] at hk
          exact ⟨ks, rfl, (Option.some.inj hk).symm⟩
      show (∀ ms, z = [] → _ → _ → _ → (match Flags.wrongBehind (past.map kindF) (kindF x) with
          | some e => .error (e, i)
          | none => Flags.judgeLines (i + 1) (past.map kindF ++ [kindF x]) ((r ++ [z]).map (·.map B)) : Except Flags.Fault (List Flags.Kind)) = _) ∧ (_ → ∃ e, (match Flags.wrongBehind (past.map kindF) (kindF x) with
          | some e => .error (e, i)
          | none => Flags.judgeLines (i + 1) (past.map kindF ++ [kindF x]) ((r ++ [z]).map (·.map B)) : Except Flags.Fault (List Flags.Kind)) = _)
      constructor
      · intro ms hz hk hs hsg
        obtain ⟨ms', hk', rfl⟩ := eks ms hk
        rw [(wrong_iff kp kx).mpr hs.1]
        have := ih1 ms' hz hk' hs.2 (by rw [List.append_assoc]; exact hsg)
        refine this.trans ?_
        rw [List.append_assoc]
        rfl
      · intro h
        cases ew : Flags.wrongBehind (past.map kindF) (kindF x) with
        | some e => exact ⟨_, rfl⟩
        | none =>
          refine ih2 fun g => h ?_
          obtain ⟨hz, ms', hk', hs', hsg⟩ := g
          refine ⟨hz, x :: ms', ?_, ⟨(wrong_iff kp kx).mp ew, hs'⟩, by rw [List.append_assoc] at hsg; exact hsg⟩
          unfold kindsI
          rw [ek, hk']
/-! ### the two orders are one -/
theorem seq_place : ∀ {ms past : List KdM}, seqOk past ms ↔ ∀ (i : Nat) x, ms[i]? = some x → fitsBehind (past ++ ms.take i) x
  | [], past => by simp [seqOk]
  | a :: r, past => by
    show fitsBehind past a ∧ seqOk (past ++ [a]) r ↔ _
    rw [seq_place (ms := r)]
    constructor
    · rintro ⟨h1, h2⟩ i x hx
      cases i with
      | zero =>
        have := Option.some.inj hx
        subst this
        simpa using h1
      | succ i =>
        have := h2 i x hx
        rw [List.append_assoc] at this
        exact this
    · intro h
      refine ⟨by simpa using h 0 a rfl, fun i x hx => ?_⟩
      have := h (i + 1) x hx
      rw [List.append_assoc]
      exact this
theorem sgn_front : ∀ {ms : List KdM}, (∀ m ∈ ms, Kv m) → (ms.Pairwise fun p x => followI p x = true) → 0 < (ms.filter isSign).length → ∃ x, ms[(ms.filter isSign).length - 1]? = some x ∧ x.role = 0
  | [], _, _, h => by simp at h
  | a :: r, kv, hp, h => by
    obtain ⟨p1, p2⟩ := List.pairwise_cons.mp hp
    have kr : ∀ m ∈ r, Kv m := fun m hm => kv m (List.mem_cons_of_mem _ hm)
    by_cases ha : a.role = 0
    · have ef : (a :: r).filter isSign = a :: r.filter isSign := by
        rw [List.filter_cons, if_pos (show isSign a = true by unfold isSign; simpa using ha)]
      rw [ef, List.length_cons, Nat.add_sub_cancel]
      by_cases hz : 0 < (r.filter isSign).length
      · obtain ⟨x, hx, hx0⟩ := sgn_front kr p2 hz
        refine ⟨x, ?_, hx0⟩
        obtain ⟨k, ek⟩ : ∃ k, (r.filter isSign).length = k + 1 := ⟨(r.filter isSign).length - 1, by omega⟩
        rw [ek] at hx ⊢
        exact hx
      · rw [show (r.filter isSign).length = 0 by omega]
        exact ⟨a, rfl, ha⟩
    · exfalso
      have : (a :: r).filter isSign = [] := by
        rw [List.filter_eq_nil_iff]
        intro x hx hs
        have hx0 : x.role = 0 := by unfold isSign at hs; simpa using hs
        rcases List.mem_cons.mp hx with rfl | hx
        · exact ha hx0
        · exact ha ((follow0 (kv a (by simp)) (kr x hx) hx0).mp (p1 x hx))
      rw [this] at h
      simp at h
theorem sgn_before {ms : List KdM} (kv : ∀ m ∈ ms, Kv m) (hp : ms.Pairwise fun p x => followI p x = true) {i : Nat} {x : KdM} (hx : ms[i]? = some x) (h0 : x.role = 0) : i + 1 ≤ (ms.filter isSign).length := by
  have hi := (List.getElem?_eq_some_iff.mp hx).1
  have hall : ∀ p ∈ ms.take (i + 1), isSign p = true := fun p hpm => by
    rw [take_snoc hx] at hpm
    unfold isSign
    rw [decide_eq_true_eq]
    rcases List.mem_append.mp hpm with hpm | hpm
    · exact (follow0 (kv p (List.mem_of_mem_take hpm)) (kv x (List.mem_of_getElem? hx)) h0).mp (pw_place.mp hp i x hx p hpm)
    · rw [List.mem_singleton.mp hpm]; exact h0
  have e1 : ((ms.take (i + 1)).filter isSign).length = i + 1 := by
    rw [List.filter_eq_self.mpr hall, List.length_take]
    omega
  have e2 : ms.filter isSign = (ms.take (i + 1)).filter isSign ++ (ms.drop (i + 1)).filter isSign := by
    rw [← List.filter_append, List.take_append_drop]
  rw [e2, List.length_append, e1]
  omega
theorem order_iff {ms : List KdM} (kv : ∀ m ∈ ms, Kv m) : (orderI ms && differI ms) = true ↔ seqOk [] ms ∧ hasSign ms := by
  have hch := chain_pw kv
  rw [seq_place, Bool.and_eq_true]
  unfold orderI differI
  rw [Bool.and_eq_true]
  have tn : ((!twiceI ((ms.filter isSign).map nmD)) = true) ↔ ms.Pairwise fun p x => ¬ badName p x := by
    rw [show ((!twiceI ((ms.filter isSign).map nmD)) = true) ↔ twiceI ((ms.filter isSign).map nmD) = false by simp, twice_pw, List.pairwise_map, List.pairwise_filter]
    constructor
    · intro h
      refine h.imp fun {a b} hab z => ?_
      have := hab (by unfold isSign; simpa using z.1) (by unfold isSign; simpa using z.2.1)
      rw [eqv_nm, z.2.2] at this
      simp at this
    · intro h
      refine h.imp fun {a b} hab ha hb => ?_
      rw [eqv_nm, decide_eq_false_iff_not]
      exact fun z => hab ⟨by unfold isSign at ha; simpa using ha, by unfold isSign at hb; simpa using hb, z⟩
  have tf : ((!twiceI (ms.map fcD)) = true) ↔ ms.Pairwise fun p x => ¬ badFace p x := by
    rw [show ((!twiceI (ms.map fcD)) = true) ↔ twiceI (ms.map fcD) = false by simp, twice_pw, List.pairwise_map]
    constructor
    · intro h
      refine h.imp fun {a b} hab z => ?_
      rw [eqv_fc, z.1, z.2] at hab
      simp at hab
    · intro h
      refine h.imp fun {a b} hab => ?_
      rw [eqv_fc, Bool.and_eq_false_iff]
      by_cases c : a.shape = b.shape
      · right
        rw [decide_eq_false_iff_not]
        exact fun z => hab ⟨c, z⟩
      · left
        rw [decide_eq_false_iff_not]
        exact c
  rw [tn, tf]
  have hsg : 1 ≤ (ms.filter isSign).length ↔ hasSign ms := by
    unfold hasSign
    constructor
    · intro h
      obtain ⟨x, hx⟩ : ∃ x, x ∈ ms.filter isSign := by
        cases e : ms.filter isSign with
        | nil => rw [e] at h; simp at h
        | cons x r => exact ⟨x, by simp⟩
      exact ⟨x, (List.mem_filter.mp hx).1, by have := (List.mem_filter.mp hx).2; unfold isSign at this; simpa using this⟩
    · rintro ⟨m, hm, h0⟩
      have : m ∈ ms.filter isSign := List.mem_filter.mpr ⟨hm, by unfold isSign; simpa using h0⟩
      exact List.length_pos_of_mem this
  constructor
  · rintro ⟨h1, h2, h3⟩
    split at h1
    · cases h1
    · rename_i hc
      have hp := hch.mp h1
      refine ⟨fun i x hx => ⟨fun p hpm => ?_, fun h0 => ?_⟩, hsg.mp (by omega)⟩
      · rw [List.nil_append] at hpm
        exact ⟨pw_place.mp hp i x hx p hpm, pw_place.mp h2 i x hx p hpm, pw_place.mp h3 i x hx p hpm⟩
      · have := sgn_before kv hp hx h0
        rw [List.nil_append, List.length_take]
        omega
  · rintro ⟨h1, h2⟩
    have hp : ms.Pairwise fun p x => followI p x = true := pw_place.mpr fun i x hx p hpm => ((h1 i x hx).1 p (by rw [List.nil_append]; exact hpm)).1
    refine ⟨?_, pw_place.mpr fun i x hx p hpm => ((h1 i x hx).1 p (by rw [List.nil_append]; exact hpm)).2.1, pw_place.mpr fun i x hx p hpm => ((h1 i x hx).1 p (by rw [List.nil_append]; exact hpm)).2.2⟩
    have n1 := hsg.mpr h2
    rw [if_neg, hch]
    · exact hp
    · rintro (z | z)
      · omega
      · obtain ⟨x, hx, hx0⟩ := sgn_front kv hp (by omega)
        have := (h1 _ x hx).2 hx0
        have hl := (List.getElem?_eq_some_iff.mp hx).1
        rw [List.nil_append, List.length_take] at this
        omega
/-! ### a locker's text -/
theorem nameIn_eq {l : List Int} (h : In8 l) : Flags.nameIn (l.map B) = (nameBehI (codes "locker") l).map fun n => n.map B := by
  unfold Flags.nameIn nameBehI
  rw [show Flags.cutAt 32 (l.map B) = (cutI 32 l).map (·.map B) from cut_map 32 (by decide) l h]
  have h8 := cut_in 32 (l := l) h
  generalize cutI 32 l = ws at h8
  match ws, h8 with
  | [], _ => rfl
  | [a], _ => rfl
  | [a, b], h8 =>
    have ea := eqB (a := a) (x := "locker") (s := "locker") (h8 a (by simp)) (in8_codes (by decide +kernel)) (by decide +kernel)
    show (if a.map B = Flags.ascii "locker" ∧ Flags.isName (b.map B) = true then some (b.map B) else none) = Option.map _ (if a = codes "locker" ∧ isNameI b = true then some b else none)
    rw [name_eq (h8 b (by simp))]
    by_cases c : a = codes "locker" ∧ isNameI b = true
    · rw [if_pos c, if_pos ⟨ea.mpr c.1, c.2⟩]
      rfl
    · rw [if_neg c, if_neg (fun z : _ ∧ _ => c ⟨ea.mp z.1, z.2⟩)]
      rfl
  | a :: b :: c :: r, _ => rfl
theorem locker_eq {t : List Int} (h : In8 t) : (∀ x, lockerI t = some x → Flags.judge (t.map B) = .ok ⟨x.1.map B, x.2.map kindF⟩) ∧ (lockerI t = none → ∃ e, Flags.judge (t.map B) = .error e) := by
  have hcut : Flags.cutAt 10 (t.map B) = (cutI 10 t).map (·.map B) := cut_map 10 (by decide) t h
  have h8 := cut_in 10 (l := t) h
  obtain ⟨ls, z, ew⟩ : ∃ ls z, cutI 10 t = ls ++ [z] := by
    rcases last_cases (cutI 10 t) with e | ⟨r, x, e⟩
    · exact absurd e (cutI_ne 10 t)
    · exact ⟨r, x, e⟩
  have hw : wholeI t = if z = [] then some ls else none := by
    unfold wholeI
    rw [ew, show (ls ++ [z]).getLastD [] = z by simp, List.dropLast_concat]
  rw [ew] at hcut h8
  cases ls with
  | nil =>
    have hl : lockerI t = none := by
      unfold lockerI
      rw [hw]
      by_cases c : z = []
      · rw [if_pos c]
      · rw [if_neg c]
    have hj : Flags.judge (t.map B) = .error (1, 0) := by
      unfold Flags.judge
      rw [hcut]
      rfl
    rw [hl]
    exact ⟨fun x hx => (by cases hx), fun _ => ⟨_, hj⟩⟩
  | cons w r =>
    have hw8 := h8 w (by simp)
    have hr8 : ∀ l ∈ r, In8 l := fun l hl => h8 l (by simp [hl])
    obtain ⟨y, r', er⟩ : ∃ y r', (r ++ [z]).map (·.map B) = y :: r' := by
      cases r with
      | nil => exact ⟨_, _, rfl⟩
      | cons a b => exact ⟨_, _, rfl⟩
    have hj : ∀ n, Flags.nameIn (w.map B) = some n → Flags.judge (t.map B) = (Flags.judgeLines 1 [] ((r ++ [z]).map (·.map B))).map fun (l : List Flags.Kind) => (⟨n, l⟩ : Flags.Locker) := fun n hn => by
      unfold Flags.judge
      rw [hcut, show ((w :: r) ++ [z]).map (·.map B) = w.map B :: y :: r' from congrArg (w.map B :: ·) er, er]
      dsimp only
      rw [hn]
    have hj0 : Flags.nameIn (w.map B) = none → Flags.judge (t.map B) = .error (1, 0) := fun hn => by
      unfold Flags.judge
      rw [hcut, show ((w :: r) ++ [z]).map (·.map B) = w.map B :: y :: r' from congrArg (w.map B :: ·) er]
      dsimp only
      rw [hn]
    have hl : lockerI t = if z = [] then locker4 (nameBehI (codes "locker") w) (kindsI r) else none := by
      unfold lockerI
      rw [hw]
      by_cases c : z = []
      · rw [if_pos c, if_pos c]
      · rw [if_neg c, if_neg c]
    rw [hl]
    have hn := nameIn_eq hw8
    obtain ⟨j1, j2⟩ := lines_eq r z 1 [] hr8 (fun p hp => absurd hp (by simp))
    simp only [List.map_nil, List.nil_append] at j1 j2
    cases en : nameBehI (codes "locker") w with
    | none =>
      rw [en] at hn
      refine ⟨fun x hx => ?_, fun _ => ⟨(1, 0), hj0 hn⟩⟩
      rw [locker4_1] at hx
      split at hx <;> cases hx
    | some n =>
      rw [en] at hn
      have hj := hj _ hn
      rw [hj]
      constructor
      · intro x hx
        split at hx
        · rename_i hz
          cases ek : kindsI r with
          | none => rw [ek, locker4_2] at hx; cases hx
          | some ms =>
            rw [ek] at hx
            have hx : (if (orderI ms && differI ms) = true then some (n, ms) else none) = some x := hx
            split at hx
            · rename_i ho
              have := Option.some.inj hx
              subst this
              obtain ⟨o1, o2⟩ := (order_iff (kvs_of hr8 ek)).mp ho
              rw [j1 ms hz ek o1 o2]
              rfl
            · cases hx
        · cases hx
      · intro hx
        obtain ⟨e, ee⟩ := j2 fun g => by
          obtain ⟨hz, ms, hk, hs, hsg⟩ := g
          rw [if_pos hz, hk] at hx
          have hx : (if (orderI ms && differI ms) = true then some (n, ms) else none) = none := hx
          rw [if_pos ((order_iff (kvs_of hr8 hk)).mpr ⟨hs, by simpa using hsg⟩)] at hx
          cases hx
        exact ⟨e, by rw [ee]; rfl⟩
end HD
end
section
set_option Elab.async false
set_option linter.all false
set_option maxRecDepth 100000
set_option maxHeartbeats 2000000
namespace HD
open PySem JM
/-! ### what a hoist means -/
def rmI (ms : List KdM) : Nat → List Nat → Bool
  | _, [] => true
  | k, f :: r => decide (f < ms.length) && (meansI (ms.getD f zeroK) k && rmI ms (k + 1) r)
theorem rm_eq (ms : List KdM) : ∀ (fs : List Nat) (k : Nat), rmI ms k fs = (fs.all (fun f => decide (f < ms.length)) && (List.range fs.length).all fun i => meansI (ms.getD (fs.getD i 0) zeroK) (i + k))
  | [], k => rfl
  | f :: r, k => by
    show (decide (f < ms.length) && (meansI (ms.getD f zeroK) k && rmI ms (k + 1) r)) = _
    rw [rm_eq ms r (k + 1), List.all_cons, List.length_cons, List.range_succ_eq_map, List.all_cons, List.all_map]
    have e : ((fun i => meansI (ms.getD ((f :: r).getD i 0) zeroK) (i + k)) ∘ Nat.succ) = fun i => meansI (ms.getD (r.getD i 0) zeroK) (i + (k + 1)) := by
      funext i
      show meansI (ms.getD ((f :: r).getD (i + 1) 0) zeroK) (i + 1 + k) = _
      rw [show i + 1 + k = i + (k + 1) by omega]
      rfl
    rw [e, show (f :: r).getD 0 0 = f from rfl, Nat.zero_add]
    cases decide (f < ms.length) <;> cases meansI (ms.getD f zeroK) k <;> simp
theorem row_rm (ms : List KdM) (fs : List Nat) : rowMeansI ms fs = rmI ms 0 fs := by
  rw [rm_eq]
  rfl
theorem kinds_at {n : List UInt8} {ms : List KdM} {f : Nat} (h : f < ms.length) : (⟨n, ms.map kindF⟩ : Flags.Locker).kinds[f]? = some (kindF (ms.getD f zeroK)) := by
  show (ms.map kindF)[f]? = _
  rw [List.getElem?_map, List.getD_eq_getElem?_getD, List.getElem?_eq_getElem h]
  rfl
theorem kinds_no {n : List UInt8} {ms : List KdM} {f : Nat} (h : ¬ f < ms.length) : (⟨n, ms.map kindF⟩ : Flags.Locker).kinds[f]? = none := by
  show (ms.map kindF)[f]? = _
  rw [List.getElem?_eq_none (by rw [List.length_map]; omega)]
theorem getD_kv {ms : List KdM} (kv : ∀ m ∈ ms, Kv m) {f : Nat} (h : f < ms.length) : Kv (ms.getD f zeroK) := by
  rw [List.getD_eq_getElem?_getD, List.getElem?_eq_getElem h]
  exact kv _ (List.getElem_mem h)
theorem means_rm {n : List UInt8} {ms : List KdM} (kv : ∀ m ∈ ms, Kv m) : ∀ (fs above : List Nat), ((⟨n, ms.map kindF⟩ : Flags.Locker).meansFrom above fs).isSome = rmI ms above.length fs
  | [], above => rfl
  | f :: r, above => by
    unfold Flags.Locker.meansFrom rmI
    by_cases hf : f < ms.length
    · rw [kinds_at hf, decide_eq_true hf, Bool.true_and]
      have km := getD_kv kv hf
      generalize ms.getD f zeroK = m at km
      show (match (some (kindF m).role : Option Flags.Role) with
        | some (.sign _) => (⟨n, ms.map kindF⟩ : Flags.Locker).meansFrom (above ++ [f]) r
        | some (.same k) => (match above[k - 1]? with
          | some s => (⟨n, ms.map kindF⟩ : Flags.Locker).meansFrom (above ++ [s]) r
          | none => none)
        | _ => none).isSome = _
      have hr := km.role
      have rm : m.role = 0 ∨ m.role = 1 ∨ m.role = 2 := by omega
      rcases rm with rm | rm | rm
      · rw [role0 rm]
        have ih := means_rm (n := n) kv r (above ++ [f])
        rw [List.length_append] at ih
        have e : meansI m above.length = true := by unfold meansI; rw [if_neg (by omega)]; simpa using rm
        rw [e, Bool.true_and]
        exact ih
      · rw [role1 rm]
        have hw := km.wh1 rm
        have e : meansI m above.length = decide (m.which ≤ (above.length : Int)) := by unfold meansI; rw [if_pos rm]
        rw [e]
        dsimp only
        by_cases hk : m.which ≤ (above.length : Int)
        · obtain ⟨s, hs⟩ : ∃ s, above[m.which.toNat - 1]? = some s := ⟨_, List.getElem?_eq_getElem (by omega)⟩
          have ih := means_rm (n := n) kv r (above ++ [s])
          rw [List.length_append] at ih
          rw [hs, decide_eq_true hk, Bool.true_and]
          exact ih
        · rw [List.getElem?_eq_none (by omega), decide_eq_false hk, Bool.false_and]
          rfl
      · rw [role2 km rm]
        have e : meansI m above.length = false := by unfold meansI; rw [if_neg (by omega)]; simp [rm]
        rw [e, Bool.false_and]
        rfl
    · rw [kinds_no hf, decide_eq_false hf, Bool.false_and]
      rfl
theorem has_eq {n : List UInt8} {ms : List KdM} (kv : ∀ m ∈ ms, Kv m) {fl : List Nat} (hl : ∀ f ∈ fl, f < ms.length) : (⟨n, ms.map kindF⟩ : Flags.Locker).has fl = (List.range ms.length).all (fewI ms fl) := by
  have hc : ∀ f, f < ms.length → ((⟨n, ms.map kindF⟩ : Flags.Locker).copies f : Int) = (ms.getD f zeroK).copies := fun f hf => by
    unfold Flags.Locker.copies
    rw [kinds_at hf]
    show (((ms.getD f zeroK).copies.toNat : Nat) : Int) = _
    have := (getD_kv kv hf).cp
    omega
  unfold Flags.Locker.has fewI
  rw [Bool.eq_iff_iff, List.all_eq_true, List.all_eq_true]
  constructor
  · intro h i hi
    have hi := List.mem_range.mp hi
    rw [decide_eq_true_eq]
    by_cases hm : i ∈ fl
    · have := of_decide_eq_true (h i hm)
      have := hc i hi
      omega
    · rw [List.count_eq_zero_of_not_mem hm]
      have := (getD_kv kv hi).cp
      omega
  · intro h f hf
    have := of_decide_eq_true (h f (List.mem_range.mpr (hl f hf)))
    have := hc f (hl f hf)
    rw [decide_eq_true_eq]
    omega
theorem bad_eq {n : List UInt8} {ms : List KdM} (kv : ∀ m ∈ ms, Kv m) {hs : List (List Nat)} (hl : ∀ h ∈ hs, ∀ f ∈ h, f < ms.length) : (⟨n, ms.map kindF⟩ : Flags.Locker).badShowing [hs] = if outI ms hs = true then none else some 0 := by
  have e : ((hs.all fun (h : Flags.Hoist) => ((⟨n, ms.map kindF⟩ : Flags.Locker).means h).isSome) && (⟨n, ms.map kindF⟩ : Flags.Locker).has hs.flatten) = outI ms hs := by
    unfold outI
    rw [has_eq kv (fun f hf => by obtain ⟨h, hh, hf⟩ := List.mem_flatten.mp hf; exact hl h hh f hf)]
    congr 2
    funext h
    rw [row_rm]
    exact means_rm kv h []
  unfold Flags.Locker.badShowing
  rw [List.findIdx?_cons, e]
  cases outI ms hs <;> rfl
/-! ### the numbers -/
section
variable {L : Flags.Locker}
theorem flags_ok : ∀ (n i : Nat) (b : List Nat), n ≤ b.length → (∀ f ∈ b.take n, f < L.kinds.length) → L.flagsIn n i b = .ok (b.take n, b.drop n)
  | 0, _, b, _, _ => rfl
  | n + 1, i, [], h, _ => by simp at h
  | n + 1, i, c :: b, h, hf => by
    have hc : c < L.kinds.length := hf c (by simp)
    unfold Flags.Locker.flagsIn
    rw [if_neg (by omega), flags_ok n (i + 1) b (by simpa using h) fun f hm => hf f (by rw [List.take_succ_cons]; exact List.mem_cons_of_mem _ hm)]
    rfl
theorem flags_of : ∀ (n i : Nat) (b h r : List Nat), L.flagsIn n i b = .ok (h, r) → n ≤ b.length ∧ h = b.take n ∧ r = b.drop n ∧ ∀ f ∈ h, f < L.kinds.length
  | 0, _, b, h, r, e => by
    have e : (Except.ok ([], b) : Except Nat (List Nat × List Nat)) = .ok (h, r) := e
    injection e with e
    injection e with e1 e2
    subst e1 e2
    exact ⟨Nat.zero_le _, rfl, rfl, by simp⟩
  | n + 1, i, [], h, r, e => by cases e
  | n + 1, i, c :: b, h, r, e => by
    unfold Flags.Locker.flagsIn at e
    split at e
    · cases e
    · rename_i hc
      cases e2 : L.flagsIn n (i + 1) b with
      | error j => rw [e2] at e; cases e
      | ok x =>
        rw [e2] at e
        have e : (Except.ok (c :: x.1, x.2) : Except Nat (List Nat × List Nat)) = .ok (h, r) := e
        injection e with e
        injection e with q1 q2
        subst q1 q2
        obtain ⟨a1, a2, a3, a4⟩ := flags_of n (i + 1) b x.1 x.2 e2
        refine ⟨by simpa using a1, by rw [a2]; rfl, a3, fun f hf => ?_⟩
        rcases List.mem_cons.mp hf with rfl | hf
        · omega
        · exact a4 f hf
theorem count_nat {s : List Nat} {pl : Nat} {most : Nat} : countI (nv s) pl (most : Int) = match s[pl]? with
    | some c => if c < 1 ∨ most < c then none else some ((c : Nat) : Int)
    | none => none := by
  unfold countI nv
  rw [List.getElem?_map]
  cases s[pl]? with
  | none => rfl
  | some c =>
    show (if ((c : Nat) : Int) < 1 ∨ ((c : Nat) : Int) > (most : Int) then none else some ((c : Nat) : Int)) = if c < 1 ∨ most < c then none else some ((c : Nat) : Int)
    by_cases h : c < 1 ∨ most < c
    · rw [if_pos h, if_pos (by omega)]
    · rw [if_neg h, if_neg (by omega)]
theorem drop_at {s : List Nat} {pl c : Nat} (h : s[pl]? = some c) : s.drop pl = c :: s.drop (pl + 1) := by
  obtain ⟨h1, h2⟩ := List.getElem?_eq_some_iff.mp h
  rw [List.drop_eq_getElem_cons h1, h2]
theorem ho_of (s : List Nat) : ∀ (k pl i : Nat) (hs : List (List Nat)) (j : Nat) (r : List Nat), pl ≤ s.length → L.hoistsIn k i (s.drop pl) = .ok (hs, j, r) → ∃ e, hoGo (nv s) k pl = some (hs.map nv, e) ∧ r = s.drop e ∧ e ≤ s.length ∧ ∀ h ∈ hs, ∀ f ∈ h, f < L.kinds.length
  | 0, pl, i, hs, j, r, hp, e => by
    have e : (Except.ok ([], i, s.drop pl) : Except Nat (List (List Nat) × Nat × List Nat)) = .ok (hs, j, r) := e
    injection e with e
    injection e with e1 e2
    injection e2 with e2 e3
    subst e1 e3
    exact ⟨pl, rfl, rfl, hp, by simp⟩
  | k + 1, pl, i, hs, j, r, hp, e => by
    cases es : s[pl]? with
    | none =>
      rw [List.drop_eq_nil_of_le (List.getElem?_eq_none_iff.mp es)] at e
      cases e
    | some c =>
      rw [drop_at es] at e
      unfold Flags.Locker.hoistsIn at e
      split at e
      · cases e
      · rename_i hc
        have e8 : Flags.LONG = 8 := rfl
        cases ef : L.flagsIn c (i + 1) (s.drop (pl + 1)) with
        | error j => rw [ef] at e; cases e
        | ok x =>
          rw [ef] at e
          obtain ⟨h, r1⟩ := x
          obtain ⟨a1, a2, a3, a4⟩ := flags_of _ _ _ _ _ ef
          subst a2 a3
          dsimp only at e
          rw [List.drop_drop] at e
          rw [List.length_drop] at a1
          cases eh : L.hoistsIn k (i + 1 + c) (s.drop (pl + 1 + c)) with
          | error j => rw [eh] at e; cases e
          | ok y =>
            rw [eh] at e
            obtain ⟨hs', j', r'⟩ := y
            have e : (Except.ok ((s.drop (pl + 1)).take c :: hs', j', r') : Except Nat (List (List Nat) × Nat × List Nat)) = .ok (hs, j, r) := e
            injection e with e
            injection e with q1 q2
            injection q2 with q2 q3
            subst q1 q2 q3
            obtain ⟨e', g1, g2, g3, g4⟩ := ho_of s k (pl + 1 + c) (i + 1 + c) hs' j' r' (by omega) eh
            refine ⟨e', ?_, g2, g3, fun h hh => ?_⟩
            · have ec : countI (nv s) pl 8 = some ((c : Nat) : Int) := by
                have := count_nat (s := s) (pl := pl) (most := 8)
                rw [es] at this
                dsimp only at this
                rw [if_neg (by omega)] at this
                exact this
              unfold hoGo
              rw [ec]
              dsimp only
              rw [Int.toNat_natCast, g1]
              show some (_ :: hs'.map nv, e') = some (((s.drop (pl + 1)).take c :: hs').map nv, e')
              congr 2
              rw [List.map_cons]
              congr 1
              unfold nv
              rw [List.map_take, List.map_drop]
            · rcases List.mem_cons.mp hh with rfl | hh
              · exact a4
              · exact g4 h hh
theorem ho_ge (ns : List Int) : ∀ (k pl : Nat) (x : List (List Int) × Nat), hoGo ns k pl = some x → pl ≤ x.2
  | 0, pl, x, h => by
    have := Option.some.inj h
    subst this
    exact Nat.le_refl _
  | k + 1, pl, x, h => by
    unfold hoGo at h
    cases ec : countI ns pl 8 with
    | none => rw [ec] at h; cases h
    | some c =>
      rw [ec] at h
      dsimp only at h
      cases eg : hoGo ns k (pl + 1 + c.toNat) with
      | none => rw [eg] at h; cases h
      | some y =>
        rw [eg] at h
        have := Option.some.inj h
        subst this
        have := ho_ge ns k _ y eg
        show pl ≤ y.2
        omega
theorem ho_ok (s : List Nat) : ∀ (k pl i : Nat) (hs : List (List Nat)) (e : Nat), hoGo (nv s) k pl = some (hs.map nv, e) → e ≤ s.length → (∀ h ∈ hs, ∀ f ∈ h, f < L.kinds.length) → ∃ j, L.hoistsIn k i (s.drop pl) = .ok (hs, j, s.drop e)
  | 0, pl, i, hs, e, h, _, _ => by
    have h : some (([] : List (List Int)), pl) = some (hs.map nv, e) := h
    have h := Option.some.inj h
    injection h with h1 h2
    subst h2
    have : hs = [] := by
      cases hs with
      | nil => rfl
      | cons a b => cases h1
    subst this
    exact ⟨i, rfl⟩
  | k + 1, pl, i, hs, e, h, hle, hf => by
    unfold hoGo at h
    have hcn := count_nat (s := s) (pl := pl) (most := 8)
    cases es : s[pl]? with
    | none =>
      rw [es] at hcn
      rw [show countI (nv s) pl 8 = none from hcn] at h
      cases h
    | some c =>
      rw [es] at hcn
      dsimp only at hcn
      by_cases hc : c < 1 ∨ 8 < c
      · rw [if_pos hc] at hcn
        rw [show countI (nv s) pl 8 = none from hcn] at h
        cases h
      · rw [if_neg hc] at hcn
        rw [show countI (nv s) pl 8 = some ((c : Nat) : Int) from hcn] at h
        dsimp only at h
        rw [Int.toNat_natCast] at h
        cases eg : hoGo (nv s) k (pl + 1 + c) with
        | none => rw [eg] at h; cases h
        | some x =>
          rw [eg] at h
          dsimp only at h
          have h := Option.some.inj h
          injection h with h1 h2
          cases hs with
          | nil => cases h1
          | cons h0 hs' =>
            rw [List.map_cons] at h1
            injection h1 with h3 h4
            have eh0 : h0 = (s.drop (pl + 1)).take c := by
              have : nv ((s.drop (pl + 1)).take c) = nv h0 := by
                rw [← h3]
                unfold nv
                rw [List.map_take, List.map_drop]
              have t := congrArg (fun l => l.map Int.toNat) this
              try dsimp only at t
              rw [toNat_nv, toNat_nv] at t
              exact t.symm
            subst eh0 h2
            have ge := ho_ge (nv s) k _ x eg
            obtain ⟨j, ej⟩ := ho_ok s k (pl + 1 + c) (i + 1 + c) hs' x.2 (by rw [eg, ← h4]) hle fun h hh => hf h (List.mem_cons_of_mem _ hh)
            refine ⟨j, ?_⟩
            rw [drop_at es]
            unfold Flags.Locker.hoistsIn
            have e8 : Flags.LONG = 8 := rfl
            rw [if_neg (by omega), flags_ok c (i + 1) (s.drop (pl + 1)) (by rw [List.length_drop]; omega) (fun f hm => hf _ (by simp) f hm)]
            try dsimp only
            rw [List.drop_drop, ej]
            rfl
/-- one display, and nothing behind it -/
theorem shown_one {s : List Nat} {hs : List (List Nat)} : L.shown s = .ok [hs] ↔ ∃ c j, s[0]? = some c ∧ 1 ≤ c ∧ c ≤ 4 ∧ L.hoistsIn c 1 (s.drop 1) = .ok (hs, j, []) := by
  unfold Flags.Locker.shown
  have e4 : Flags.MOST = 4 := rfl
  cases s with
  | nil =>
    constructor
    · intro h; cases h
    · rintro ⟨c, j, h, _⟩; cases h
  | cons c b =>
    have e : L.shownIn (c :: b).length 0 (c :: b) = if c < 1 ∨ Flags.MOST < c then .error 0 else match L.hoistsIn c 1 b with
      | .error j => .error j
      | .ok (hs, j, r) => (L.shownIn b.length j r).map fun (l : List (List Flags.Hoist)) => hs :: l := rfl
    rw [e]
    by_cases hc : c < 1 ∨ Flags.MOST < c
    · rw [if_pos hc]
      constructor
      · intro h; cases h
      · rintro ⟨c', j, h, h1, h4, _⟩
        have : c = c' := Option.some.inj h
        omega
    · rw [if_neg hc]
      cases eh : L.hoistsIn c 1 b with
      | error j =>
        constructor
        · intro h; cases h
        · rintro ⟨c', j', h, h1, h4, h5⟩
          have : c = c' := Option.some.inj h
          subst this
          rw [show (c :: b).drop 1 = b from rfl, eh] at h5
          cases h5
      | ok x =>
        obtain ⟨hs', j, r⟩ := x
        dsimp only
        constructor
        · intro h
          cases r with
          | nil =>
            have es : L.shownIn b.length j [] = .ok [] := by cases b <;> rfl
            rw [es] at h
            have h : (Except.ok [hs'] : Except Nat (List (List (List Nat)))) = .ok [hs] := h
            injection h with h
            injection h with h _
            subst h
            exact ⟨c, j, rfl, by omega, by omega, eh⟩
          | cons d r =>
            cases es : L.shownIn b.length j (d :: r) with
            | error i => rw [es] at h; cases h
            | ok l =>
              rw [es] at h
              have h : (Except.ok (hs' :: l) : Except Nat (List (List (List Nat)))) = .ok [hs] := h
              injection h with h
              injection h with _ h
              subst h
              exfalso
              generalize b.length = m at es
              cases m with
              | zero => cases es
              | succ m =>
                unfold Flags.Locker.shownIn at es
                split at es
                · cases es
                · split at es
                  · cases es
                  · rename_i hs2 j2 r2 _
                    cases e2 : L.shownIn m j2 r2 with
                    | error i => rw [e2] at es; cases es
                    | ok l => rw [e2] at es; cases es
        · rintro ⟨c', j', h, h1, h4, h5⟩
          have : c = c' := Option.some.inj h
          subst this
          rw [show (c :: b).drop 1 = b from rfl, eh] at h5
          injection h5 with h5
          injection h5 with q1 q2
          injection q2 with q2 q3
          subst q1 q2 q3
          have es : L.shownIn b.length j [] = .ok [] := by cases b <;> rfl
          rw [es]
          rfl
end
theorem out_lt {ms : List KdM} {hs : List (List Nat)} (h : outI ms hs = true) : ∀ x ∈ hs, ∀ f ∈ x, f < ms.length := fun x hx => by
  unfold outI at h
  exact row_lt (List.all_eq_true.mp (Bool.and_eq_true_iff.mp h).1 x hx)
theorem show_eq {n : List UInt8} {ms : List KdM} (kv : ∀ m ∈ ms, Kv m) (s : List Nat) :
    (∀ hs, showI ms s = some hs → (⟨n, ms.map kindF⟩ : Flags.Locker).shown s = .ok [hs] ∧ (⟨n, ms.map kindF⟩ : Flags.Locker).badShowing [hs] = none) ∧
    (showI ms s = none → ∀ hs, (⟨n, ms.map kindF⟩ : Flags.Locker).shown s = .ok [hs] → ((⟨n, ms.map kindF⟩ : Flags.Locker).badShowing [hs]).isSome = true) := by
  have hkl : (⟨n, ms.map kindF⟩ : Flags.Locker).kinds.length = ms.length := List.length_map _
  have hcn := count_nat (s := s) (pl := 0) (most := 4)
  constructor
  · intro hs h
    have ho := show_out h
    have hlt := out_lt ho
    refine ⟨?_, by rw [bad_eq kv hlt, if_pos ho]⟩
    rw [shown_one]
    unfold showI at h
    cases eL : hoistsI (nv s) with
    | none => rw [eL] at h; cases h
    | some LL =>
      rw [eL] at h
      dsimp only at h
      obtain ⟨hs', e1, _, _, e2⟩ := hoists_nv eL
      rw [e2] at h
      split at h
      · have := Option.some.inj h
        subst this
        unfold hoistsI at eL
        cases es : s[0]? with
        | none =>
          rw [es] at hcn
          rw [show countI (nv s) 0 4 = none from hcn] at eL
          cases eL
        | some c =>
          rw [es] at hcn
          dsimp only at hcn
          by_cases hc : c < 1 ∨ 4 < c
          · rw [if_pos hc] at hcn
            rw [show countI (nv s) 0 4 = none from hcn] at eL
            cases eL
          · rw [if_neg hc] at hcn
            rw [show countI (nv s) 0 4 = some ((c : Nat) : Int) from hcn] at eL
            dsimp only at eL
            rw [Int.toNat_natCast] at eL
            cases eg : hoGo (nv s) c 1 with
            | none => rw [eg] at eL; cases eL
            | some x =>
              rw [eg] at eL
              dsimp only at eL
              split at eL
              · rename_i ex
                have := Option.some.inj eL
                rw [e1] at this
                rw [nv_len] at ex
                obtain ⟨j, ej⟩ := ho_ok (L := ⟨n, ms.map kindF⟩) s c 1 1 hs' x.2 (by rw [eg, ← this]) (by omega) (fun h hh f hf => by rw [hkl]; exact hlt h hh f hf)
                refine ⟨c, j, rfl, by omega, by omega, ?_⟩
                rw [ej, ex, List.drop_length]
              · cases eL
      · cases h
  · intro h hs hsh
    rw [shown_one] at hsh
    obtain ⟨c, j, es, c1, c4, eh⟩ := hsh
    have hl := (List.getElem?_eq_some_iff.mp es).1
    obtain ⟨e, g1, g2, g3, g4⟩ := ho_of (L := ⟨n, ms.map kindF⟩) s c 1 1 hs j [] (by omega) eh
    have hlt : ∀ h ∈ hs, ∀ f ∈ h, f < ms.length := fun h hh f hf => by have := g4 h hh f hf; rw [hkl] at this; exact this
    rw [bad_eq kv hlt]
    have ee : e = s.length := by
      have := congrArg List.length g2
      rw [List.length_drop] at this
      have : 0 = s.length - e := this
      omega
    by_cases ho : outI ms hs = true
    · exfalso
      rw [es] at hcn
      dsimp only at hcn
      rw [if_neg (by omega)] at hcn
      have eH : hoistsI (nv s) = some (hs.map nv) := by
        unfold hoistsI
        rw [show countI (nv s) 0 4 = some ((c : Nat) : Int) from hcn]
        dsimp only
        rw [Int.toNat_natCast, g1]
        dsimp only
        rw [nv_len, if_pos ee]
      obtain ⟨hs', e1, _, _, e2⟩ := hoists_nv eH
      have e3 : ((hs.map nv).map fun l => l.map Int.toNat) = hs := by
        rw [List.map_map]
        exact (List.map_congr_left (g := id) fun l _ => toNat_nv l).trans (List.map_id hs)
      unfold showI at h
      rw [eH] at h
      dsimp only at h
      rw [e3, if_pos ho] at h
      cases h
    · rw [if_neg ho]
      rfl
end HD
end
section
set_option Elab.async false
set_option linter.all false
set_option maxRecDepth 100000
set_option maxHeartbeats 2000000
namespace HD
open PySem JM
/-! ### the plate's text -/
abbrev ib (b : List UInt8) : List Int := b.map fun x => ((x.toNat : Nat) : Int)
def signC (c : Int) : Int := ((seenSigns.cps.toList.getD c.toNat 0 : Nat) : Int)
theorem codes_signs (l : List Int) : codes (signsS l) = l.map signC := by
  unfold signsS
  rw [codes_join]
  induction l with
  | nil => rfl
  | cons a l ih =>
    rw [List.map_cons, List.map_cons, List.flatten_cons, ih]
    rfl
theorem hex_sign {c : Nat} (h : c < 16) : (((Flags.hexDigit c).toNat : Nat) : Int) = signC (c : Nat) := by
  have : ((List.range 16).all fun c => decide ((((Flags.hexDigit c).toNat : Nat) : Int) = signC (c : Nat))) = true := by decide +kernel
  have := List.all_eq_true.mp this c (List.mem_range.mpr h)
  simpa using this
theorem cell_lt (l i : Nat) : Flags.cell l i < 16 := Nat.mod_lt _ (by decide)
theorem class_cell (light i : Nat) : classAt (light : Int) i = ((Flags.cell light i : Nat) : Int) := by
  unfold classAt Flags.cell
  rw [show (16 : Nat) ^ i = 2 ^ (4 * i) by rw [Nat.pow_mul], Int.natCast_emod, Int.natCast_ediv, Int.natCast_pow]
  rfl
theorem classes_at (light : Nat) {c : Nat} (h : c < 16) : (classesI (light : Int)).getD c 0 = ((Flags.cell light c : Nat) : Int) := by
  unfold classesI
  rw [List.getD_eq_getElem?_getD, List.getElem?_map, List.getElem?_range h]
  exact class_cell light c
theorem seen_cell (light side : Nat) {look : List Int} (h : lookOk look) (hs : side = 0 ∨ side = 1) {i : Nat} (hi : i < 16) : (seenI look (classesI (light : Int)) side).getD i 0 = ((Flags.cell (Flags.seenFrom light side (lookF look)) i : Nat) : Int) := by
  have hm : ∀ j, j < 16 → 0 ≤ look.getD j 0 ∧ look.getD j 0 < 16 := fun j hj => h.2 _ (getD_mem (by rw [h.1]; exact hj))
  unfold Flags.seenFrom Flags.inLight seenI
  rw [cell_lookOf _ hi, Nat.mod_eq_of_lt (cell_lt _ _)]
  rcases hs with hs | hs
  · rw [if_neg (by omega), if_pos hs, List.getD_eq_getElem?_getD, List.getElem?_map, cell_lookF h hi]
    have e : look[i]? = some (look.getD i 0) := by
      rw [List.getD_eq_getElem?_getD, List.getElem?_eq_getElem (by rw [h.1]; exact hi)]
      rfl
    rw [e]
    have := hm i hi
    exact classes_at light (by omega)
  · rw [if_pos hs, if_neg (by omega), List.getD_eq_getElem?_getD, List.getElem?_map, List.getElem?_range hi]
    unfold Flags.behind
    have hb := bh_lt hi
    rw [cell_lookOf _ hi, Nat.mod_eq_of_lt (cell_lt _ _), show 4 * (i / 4) + (3 - i % 4) = bhI i by unfold bhI; omega, cell_lookF h hb]
    have := hm _ hb
    exact classes_at light (by omega)
theorem take4 {cells : List Int} (h : cells.length = 16) {y : Nat} (hy : y < 4) : (cells.drop (4 * y)).take 4 = (List.range 4).map fun x => cells.getD (4 * y + x) 0 := by
  apply List.ext_getElem?
  intro i
  rw [List.getElem?_map]
  by_cases hi : i < 4
  · rw [List.getElem?_take, if_pos hi, List.getElem?_drop, List.getElem?_range hi, List.getElem?_eq_getElem (by omega)]
    show _ = some (cells.getD (4 * y + i) 0)
    rw [List.getD_eq_getElem?_getD, List.getElem?_eq_getElem (by omega)]
    rfl
  · rw [List.getElem?_take, if_neg hi, List.getElem?_eq_none (by simp; omega)]
    rfl
theorem all_bits {i : Nat} (h : i < 16) : Flags.ALL.testBit i = true := by
  have : ((List.range 16).all fun i => Flags.ALL.testBit i) = true := by decide +kernel
  exact List.all_eq_true.mp this i (List.mem_range.mpr h)
theorem shape_word {k : Nat} (h : k < 3) : ib (Flags.shapeSeen k) = codes (shapeStrs'.getD k "") := by
  match k, h with
  | 0, _ => decide +kernel
  | 1, _ => decide +kernel
  | 2, _ => decide +kernel
theorem flag_lines {light side : Nat} {m : KdM} (km : Kv m) (hs : side = 0 ∨ side = 1) :
    (Flags.Seen.lines ⟨m.shape, Flags.ALL, Flags.seenFrom light side (lookF m.look)⟩).map ib = (sgLines (m.shape, seenI m.look (classesI (light : Int)) side)).map codes := by
  unfold Flags.Seen.lines sgLines
  rw [List.map_cons, List.map_cons, shape_word km.sh, List.map_map, List.map_map]
  congr 1
  apply List.map_congr_left
  intro y hy
  have hy := List.mem_range.mp hy
  have hl := (seen_ok (side := side) km.lk (classes_ok (light : Int))).1
  show ib (Flags.cellRow _ y) = codes (rowS _ y)
  unfold Flags.cellRow rowS
  rw [codes_signs, take4 hl hy]
  unfold ib
  rw [List.map_map, List.map_map]
  apply List.map_congr_left
  intro x hx
  have hx := List.mem_range.mp hx
  have hi : 4 * y + x < 16 := by omega
  show (((if Flags.ALL.testBit (4 * y + x) = true then Flags.hexDigit (Flags.cell (Flags.seenFrom light side (lookF m.look)) (4 * y + x)) else 63).toNat : Nat) : Int) = signC ((seenI m.look (classesI (light : Int)) side).getD (4 * y + x) 0)
  rw [if_pos (all_bits hi), seen_cell light side km.lk hs hi]
  exact hex_sign (cell_lt _ _)
theorem map_flatMap {α β γ : Type} {f : α → List β} {g : β → γ} : ∀ l : List α, (l.flatMap f).map g = l.flatMap fun x => (f x).map g
  | [] => rfl
  | a :: l => by rw [List.flatMap_cons, List.flatMap_cons, List.map_append, map_flatMap l]
theorem flatMap_congr {α β : Type} {f g : α → List β} : ∀ {l : List α}, (∀ x ∈ l, f x = g x) → l.flatMap f = l.flatMap g
  | [], _ => rfl
  | a :: l, h => by rw [List.flatMap_cons, List.flatMap_cons, h a (by simp), flatMap_congr fun x hx => h x (List.mem_cons_of_mem _ hx)]
theorem flatMap_map {α β γ : Type} {f : α → β} {g : β → List γ} : ∀ l : List α, (l.map f).flatMap g = l.flatMap fun x => g (f x)
  | [] => rfl
  | a :: l => by rw [List.map_cons, List.flatMap_cons, List.flatMap_cons, flatMap_map l]
theorem hoist_word : ib (Flags.joined ([Flags.ascii "hoist"] ++ ((if (false : Bool) = true then [Flags.ascii "above"] else []) ++ if (false : Bool) = true then [Flags.ascii "below"] else []))) = codes (hoistS false false) := by decide +kernel
theorem hoist_lines {n : List UInt8} {ms : List KdM} (kv : ∀ m ∈ ms, Kv m) {light side : Nat} (hs : side = 0 ∨ side = 1) {h : List Nat} (hl : ∀ f ∈ h, f < ms.length) :
    (Flags.Glimpse.lines ⟨false, false, ((⟨n, ms.map kindF⟩ : Flags.Locker).looks light side h).map fun (x : Nat × Nat) => ⟨x.1, Flags.ALL, x.2⟩⟩).map ib = (glLines (glMk ms (classesI (light : Int)) side h)).map codes := by
  unfold Flags.Glimpse.lines glLines glMk Flags.Locker.looks
  dsimp only
  rw [List.map_cons, List.map_cons]
  refine List.cons_eq_cons.mpr ⟨hoist_word, ?_⟩
  rw [map_flatMap, map_flatMap, flatMap_map, flatMap_map, flatMap_map]
  refine flatMap_congr fun f hf => ?_
  have hlt := hl f hf
  rw [show (⟨n, ms.map kindF⟩ : Flags.Locker).kinds[f]? = some (kindF (ms.getD f zeroK)) from kinds_at hlt]
  exact flag_lines (getD_kv kv hlt) hs
theorem side_word {side : Nat} (hs : side = 0 ∨ side = 1) (l : List UInt8) (c : List Int) (h : ib l = c) : ib (Flags.joined [Flags.ascii "seen", Flags.sideWord side, l]) = codes "seen " ++ codes (sideStrs'.getD side "") ++ codes " " ++ c := by
  have e : Flags.joined [Flags.ascii "seen", Flags.sideWord side, l] = (Flags.ascii "seen" ++ [32]) ++ (Flags.sideWord side) ++ [32] ++ l := by
    show Flags.ascii "seen" ++ 32 :: (Flags.sideWord side ++ 32 :: l) = _
    simp
  rw [e]
  unfold ib at h ⊢
  rw [List.map_append, List.map_append, List.map_append, h]
  congr 1
  rcases hs with rfl | rfl
  · decide +kernel
  · decide +kernel
theorem nl_codes (x : Str) : codes (nl x) = codes x ++ [10] := by
  unfold nl
  rw [codes_append, show codes "\n" = [10] by decide +kernel]
theorem text_eq {n : List UInt8} {ms : List KdM} (kv : ∀ m ∈ ms, Kv m) {light side : Nat} (hs : side = 0 ∨ side = 1) {hh : List (List Nat)} (hl : ∀ h ∈ hh, ∀ f ∈ h, f < ms.length) :
    ib (Flags.Plate.text ((⟨n, ms.map kindF⟩ : Flags.Locker).drawn light side hh)) = textI (drawnM (light : Int) side ms hh) := by
  have lines : (Flags.joined [Flags.ascii "seen", Flags.sideWord side, Flags.lookWord light] :: (hh.map fun (h : Flags.Hoist) => (⟨false, false, ((⟨n, ms.map kindF⟩ : Flags.Locker).looks light side h).map fun (x : Nat × Nat) => ⟨x.1, Flags.ALL, x.2⟩⟩ : Flags.Glimpse)).flatMap Flags.Glimpse.lines).map ib = (plLines (drawnM (light : Int) side ms hh)).map codes := by
    unfold plLines drawnM
    rw [List.map_cons, List.map_cons]
    refine List.cons_eq_cons.mpr ⟨?_, ?_⟩
    · unfold headS
      dsimp only
      rw [codes_append, codes_append, codes_append]
      refine side_word hs _ _ ?_
      rw [codes_signs]
      unfold Flags.lookWord classesI ib
      rw [List.map_map, List.map_map]
      apply List.map_congr_left
      intro i hi
      show (((Flags.hexDigit (Flags.cell light i)).toNat : Nat) : Int) = signC (classAt (light : Int) i)
      rw [class_cell, hex_sign (cell_lt _ _)]
    · rw [map_flatMap, map_flatMap, flatMap_map, flatMap_map]
      exact flatMap_congr fun h hm => hoist_lines kv hs (hl h hm)
  have key : ∀ l : List (List UInt8), ib (l.flatMap fun (l : List UInt8) => l ++ [10]) = ((l.map ib).map fun c => c ++ [10]).flatten := fun l => by
    induction l with
    | nil => rfl
    | cons a l ih =>
      rw [List.flatMap_cons, List.map_cons, List.map_cons, List.flatten_cons, ← ih]
      unfold ib
      rw [List.map_append, List.map_append]
      rfl
  unfold Flags.Plate.text Flags.Locker.drawn
  dsimp only
  rw [key, lines]
  unfold textI
  rw [List.map_map]
  refine congrArg List.flatten (List.map_congr_left fun x _ => ?_)
  exact (nl_codes x).symm
/-! ### draw -/
theorem nats_nv : ∀ ns : List Nat, PlateNeutral.nats? (nv ns) = some ns
  | [] => rfl
  | a :: r => by
    have ih := nats_nv r
    unfold PlateNeutral.nats? at ih ⊢
    unfold nv at ih ⊢
    rw [List.map_cons, List.mapM_cons, ih]
    have : PlateNeutral.nat? ((a : Nat) : Int) = some a := by
      unfold PlateNeutral.nat?
      rw [if_pos (by omega), Int.toNat_natCast]
    rw [this]
    rfl
theorem draw_due {light side : Nat} {t : List Int} (h : In8 t) (ns : List Nat) : drawO (light : Int) side t ns = PyWqbada.draw (light : Int) (side : Int) t (nv ns) := by
  have hcall : PlateNeutral.callOf [[2, (light : Int), (side : Int)], t, nv ns] = some (.draw (t.map B) ns light side) := by
    show (PlateNeutral.text? t >>= fun a => PlateNeutral.nats? (nv ns) >>= fun b => PlateNeutral.nat? (light : Int) >>= fun c => PlateNeutral.nat? (side : Int) >>= fun d => some (FlagsK9.Call.draw a b c d)) = _
    have hn : ∀ k : Nat, PlateNeutral.nat? ((k : Nat) : Int) = some k := fun k => by
      unfold PlateNeutral.nat?
      rw [if_pos (by omega), Int.toNat_natCast]
    rw [in8_text h, nats_nv, hn, hn]
    rfl
  unfold PyWqbada.draw PlateNeutral.f
  rw [hcall]
  show _ = (let a := FlagsK9.answer (.draw (t.map B) ns light side)
      a.ret :: ((a.nums.map fun (n : Nat) => (n : Int)) ++ a.bytes.map fun (b : UInt8) => (b.toNat : Int)))
  have ha : FlagsK9.answer (.draw (t.map B) ns light side) = if Flags.LOOKED < (t.map B).length then Flags.MUCH else match Flags.judge (t.map B) with
    | .error _ => Flags.WRONG
    | .ok L => if 1 < side then Flags.BAD else match L.shown ns with
      | .ok [hs] => if (L.badShowing [hs]).isSome = true then Flags.NO else Flags.gives (Flags.Plate.text (L.drawn light side hs))
      | _ => Flags.NO := rfl
  rw [ha, List.length_map]
  unfold drawO
  have el : Flags.LOOKED = 65536 := rfl
  rw [el]
  by_cases hc : 65536 < t.length
  · rw [if_pos hc, if_pos hc]
    rfl
  · rw [if_neg hc, if_neg hc]
    obtain ⟨l1, l2⟩ := locker_eq h
    cases ek : lockerI t with
    | none =>
      obtain ⟨e, ee⟩ := l2 ek
      rw [ee]
      rfl
    | some x =>
      rw [l1 x ek]
      dsimp only
      by_cases hs : 1 < side
      · rw [if_pos hs, if_pos hs]
        rfl
      · rw [if_neg hs, if_neg hs]
        have kv : ∀ m ∈ x.2, Kv m := by
          unfold lockerI at ek
          split at ek
          · rename_i w r e
            cases e1 : nameBehI (codes "locker") w with
            | none => rw [e1, locker4_1] at ek; cases ek
            | some n =>
              cases e2 : kindsI r with
              | none => rw [e2, locker4_2] at ek; cases ek
              | some ms =>
                rw [e1, e2] at ek
                have ek : (if (orderI ms && differI ms) = true then some (n, ms) else none) = some x := ek
                split at ek
                · have := Option.some.inj ek
                  subst this
                  refine kvs_of (fun l hl => ?_) e2
                  unfold wholeI at e
                  split at e
                  · have e := Option.some.inj e
                    exact cut_in 10 h l (List.dropLast_subset _ (by rw [e]; exact List.mem_cons_of_mem _ hl))
                  · cases e
                · cases ek
          · cases ek
        obtain ⟨s1, s2⟩ := show_eq (n := x.1.map B) kv ns
        cases es : showI x.2 ns with
        | some hh =>
          obtain ⟨q1, q2⟩ := s1 hh es
          rw [q1]
          dsimp only
          rw [q2, if_neg (by decide)]
          have te := text_eq (n := x.1.map B) kv (light := light) (side := side) (by omega) (show_lt es)
          have tl := congrArg List.length te
          unfold ib at tl te
          rw [List.length_map] at tl
          show _ = ((Flags.Plate.text ((⟨x.1.map B, x.2.map kindF⟩ : Flags.Locker).drawn light side hh)).length : Int) :: ([] ++ (Flags.Plate.text ((⟨x.1.map B, x.2.map kindF⟩ : Flags.Locker).drawn light side hh)).map fun (b : UInt8) => (b.toNat : Int))
          rw [List.nil_append, te, tl]
        | none =>
          have s2 := s2 es
          cases eh : (⟨x.1.map B, x.2.map kindF⟩ : Flags.Locker).shown ns with
          | error e => rfl
          | ok l =>
            match l, eh with
            | [], _ => rfl
            | [hh], eh =>
              dsimp only
              rw [s2 hh eh, if_pos rfl]
              rfl
            | a :: b :: r, _ => rfl
end HD
end
section
set_option Elab.async false
set_option linter.all false
set_option maxRecDepth 100000
set_option maxHeartbeats 2000000
namespace HD
open PySem PySem.Spec PyProof.Rows L2
open PySem.W (Codec)
theorem xc_mk {K : PySem.W.Frag} {C N : Addr} {od od2 : Option Addr} {nm qn : Str} {bs sub : List Value} {sn : List Str} {ab : Bool} {col : Option Bool} {e0 e1 e2 e3 e5 : Option Value} {oc : Value} {es : Array DictEntry} {ep : Nat} {sl : Array (Option Value)}
    (h1 : K.lookup C = some ⟨.type "type", od, .cls ⟨nm, bs, .ref C :: excMro, N, qn, true, sn, sub, ab, col, false⟩, #[e0, e1, e2, e3, some (.builtin "Exception.__new__"), e5]⟩) (h2 : K.lookup N = some ⟨oc, od2, .dict es ep, sl⟩)
    (h3 : (es.all fun e => match e.key with | .str _ _ => true | _ => false) = true) : xcIn K C = some N := by
  have h4 : PySem.W.nsOkIn K N = true := by
    unfold PySem.W.nsOkIn
    rw [h2]
    exact h3
  unfold xcIn
  rw [h1]
  show (if (C == C && (excMro == excMro && ("Exception.__new__" == "Exception.__new__" && (!false && (true && PySem.W.nsOkIn K N))))) = true then some N else none) = some N
  rw [h4, show (C == C) = true from beq_self_eq_true C, show (excMro == excMro) = true by decide]
  rfl
theorem in8_req {l : List Int} (h : l.all (Codec.inInt 0 255) = true) : JM.In8 l := fun x hx => by
  have q := List.all_eq_true.mp h x hx
  exact Codec.inInt_iff.mp q
theorem nv_toNat : ∀ {l : List Int}, JM.In8 l → nv (l.map Int.toNat) = l
  | [], _ => rfl
  | x :: l, h => by
    have h1 := h x List.mem_cons_self
    have ih := nv_toNat (l := l) fun z hz => h z (List.mem_cons_of_mem _ hz)
    unfold nv at ih ⊢
    rw [List.map_cons, List.map_cons, ih, show ((x.toNat : Nat) : Int) = x by omega]
theorem all_mk {P : Program} {w : World} {K : PySem.W.Frag} {h : Heap} {mg : Str → Option Value} {fa : Addr} (X : K.In h) (G : h.Ns mainGlobals mg) (hfa : mg "draw" = some (.ref fa))
    {f0 : Addr} {oc0 kV0 dc0 pm0 cd0 ct0 : Value} {od0 an0 : Option Addr} {sl0 : Array (Option Value)}
    {f1 : Addr} {oc1 kV1 dc1 pm1 cd1 ct1 : Value} {od1 an1 : Option Addr} {sl1 : Array (Option Value)}
    {f2 : Addr} {oc2 kV2 dc2 pm2 cd2 ct2 : Value} {od2 an2 : Option Addr} {sl2 : Array (Option Value)}
    {f3 : Addr} {oc3 kV3 dc3 pm3 cd3 ct3 : Value} {od3 an3 : Option Addr} {sl3 : Array (Option Value)}
    {f4 : Addr} {oc4 kV4 dc4 pm4 cd4 ct4 : Value} {od4 an4 : Option Addr} {sl4 : Array (Option Value)}
    {f5 : Addr} {oc5 kV5 dc5 pm5 cd5 ct5 : Value} {od5 an5 : Option Addr} {sl5 : Array (Option Value)}
    {f6 : Addr} {oc6 kV6 dc6 pm6 cd6 ct6 : Value} {od6 an6 : Option Addr} {sl6 : Array (Option Value)}
    {f7 : Addr} {oc7 kV7 dc7 pm7 cd7 ct7 : Value} {od7 an7 : Option Addr} {sl7 : Array (Option Value)}
    {f8 : Addr} {oc8 kV8 dc8 pm8 cd8 ct8 : Value} {od8 an8 : Option Addr} {sl8 : Array (Option Value)}
    {f9 : Addr} {oc9 kV9 dc9 pm9 cd9 ct9 : Value} {od9 an9 : Option Addr} {sl9 : Array (Option Value)}
    {f10 : Addr} {oc10 kV10 dc10 pm10 cd10 ct10 : Value} {od10 an10 : Option Addr} {sl10 : Array (Option Value)}
    {f11 : Addr} {oc11 kV11 dc11 pm11 cd11 ct11 : Value} {od11 an11 : Option Addr} {sl11 : Array (Option Value)}
    {f12 : Addr} {oc12 kV12 dc12 pm12 cd12 ct12 : Value} {od12 an12 : Option Addr} {sl12 : Array (Option Value)}
    {f13 : Addr} {oc13 kV13 dc13 pm13 cd13 ct13 : Value} {od13 an13 : Option Addr} {sl13 : Array (Option Value)}
    {f14 : Addr} {oc14 kV14 dc14 pm14 cd14 ct14 : Value} {od14 an14 : Option Addr} {sl14 : Array (Option Value)}
    {f15 : Addr} {oc15 kV15 dc15 pm15 cd15 ct15 : Value} {od15 an15 : Option Addr} {sl15 : Array (Option Value)}
    {f16 : Addr} {oc16 kV16 dc16 pm16 cd16 ct16 : Value} {od16 an16 : Option Addr} {sl16 : Array (Option Value)}
    {f17 : Addr} {oc17 kV17 dc17 pm17 cd17 ct17 : Value} {od17 an17 : Option Addr} {sl17 : Array (Option Value)}
    {f18 : Addr} {oc18 kV18 dc18 pm18 cd18 ct18 : Value} {od18 an18 : Option Addr} {sl18 : Array (Option Value)}
    {f19 : Addr} {oc19 kV19 dc19 pm19 cd19 ct19 : Value} {od19 an19 : Option Addr} {sl19 : Array (Option Value)}
    {f20 : Addr} {oc20 kV20 dc20 pm20 cd20 ct20 : Value} {od20 an20 : Option Addr} {sl20 : Array (Option Value)}
    {f21 : Addr} {oc21 kV21 dc21 pm21 cd21 ct21 : Value} {od21 an21 : Option Addr} {sl21 : Array (Option Value)}
    {f22 : Addr} {oc22 kV22 dc22 pm22 cd22 ct22 : Value} {od22 an22 : Option Addr} {sl22 : Array (Option Value)}
    {f23 : Addr} {oc23 kV23 dc23 pm23 cd23 ct23 : Value} {od23 an23 : Option Addr} {sl23 : Array (Option Value)}
    {f24 : Addr} {oc24 kV24 dc24 pm24 cd24 ct24 : Value} {od24 an24 : Option Addr} {sl24 : Array (Option Value)}
    {f25 : Addr} {oc25 kV25 dc25 pm25 cd25 ct25 : Value} {od25 an25 : Option Addr} {sl25 : Array (Option Value)}
    {f26 : Addr} {oc26 kV26 dc26 pm26 cd26 ct26 : Value} {od26 an26 : Option Addr} {sl26 : Array (Option Value)}
    {f27 : Addr} {oc27 kV27 dc27 pm27 cd27 ct27 : Value} {od27 an27 : Option Addr} {sl27 : Array (Option Value)}
    {f28 : Addr} {oc28 kV28 dc28 pm28 cd28 ct28 : Value} {od28 an28 : Option Addr} {sl28 : Array (Option Value)}
    {f29 : Addr} {oc29 kV29 dc29 pm29 cd29 ct29 : Value} {od29 an29 : Option Addr} {sl29 : Array (Option Value)}
    {f30 : Addr} {oc30 kV30 dc30 pm30 cd30 ct30 : Value} {od30 an30 : Option Addr} {sl30 : Array (Option Value)}
    {f31 : Addr} {oc31 kV31 dc31 pm31 cd31 ct31 : Value} {od31 an31 : Option Addr} {sl31 : Array (Option Value)}
    {f32 : Addr} {oc32 kV32 dc32 pm32 cd32 ct32 : Value} {od32 an32 : Option Addr} {sl32 : Array (Option Value)}
    {C0 g0 : Addr} {oC0 kC0 dC0 pC0 cC0 tC0 : Value} {oDC0 aC0 : Option Addr} {sC0 : Array (Option Value)}
    {C1 g1 : Addr} {oC1 kC1 dC1 pC1 cC1 tC1 : Value} {oDC1 aC1 : Option Addr} {sC1 : Array (Option Value)}
    {C2 g2 : Addr} {oC2 kC2 dC2 pC2 cC2 tC2 : Value} {oDC2 aC2 : Option Addr} {sC2 : Array (Option Value)}
    {C3 g3 : Addr} {oC3 kC3 dC3 pC3 cC3 tC3 : Value} {oDC3 aC3 : Option Addr} {sC3 : Array (Option Value)}
    {C4 g4 : Addr} {oC4 kC4 dC4 pC4 cC4 tC4 : Value} {oDC4 aC4 : Option Addr} {sC4 : Array (Option Value)}
    {CE0 NX0 : Addr}
    {nmX0 qnX0 : Str} {bsX0 subX0 : List Value} {snX0 : List Str} {abX0 : Bool} {colX0 : Option Bool} {eX0_0 eX0_1 eX0_2 eX0_3 eX0_5 : Option Value} {odX0_1 odX0_2 : Option Addr} {ocX0 : Value} {esX0 : Array DictEntry} {epX0 : Nat} {slX0 : Array (Option Value)}
    {CE1 NX1 : Addr}
    {nmX1 qnX1 : Str} {bsX1 subX1 : List Value} {snX1 : List Str} {abX1 : Bool} {colX1 : Option Bool} {eX1_0 eX1_1 eX1_2 eX1_3 eX1_5 : Option Value} {odX1_1 odX1_2 : Option Addr} {ocX1 : Value} {esX1 : Array DictEntry} {epX1 : Nat} {slX1 : Array (Option Value)}
    {ti0 : Tok}
    {ti1 : Tok}
    {ti2 : Tok}
    {ti3 : Tok}
    {ti4 : Tok}
    {ti5 : Tok}
    {ti6 : Tok}
    {ti7 : Tok}
    {ti8 : Tok}
    {ti9 : Tok}
    {ti10 : Tok}
    {ti11 : Tok}
    {ti12 : Tok}
    {ti13 : Tok}
    {ti14 : Tok}
    {ti15 : Tok}
    {ts0 : Tok}
    {ts1 : Tok}
    {ts2 : Tok}
    {aT0 : Addr} {oT0 : Option Addr} {nT0 : Nat} {sT0 : Array (Option Value)} {tt0_0 tt0_1 tt0_2 : Tok}
    {aT1 : Addr} {oT1 : Option Addr} {nT1 : Nat} {sT1 : Array (Option Value)} {tt1_0 tt1_1 tt1_2 : Tok}
    {aT2 : Addr} {oT2 : Option Addr} {nT2 : Nat} {sT2 : Array (Option Value)} {tt2_0 tt2_1 tt2_2 : Tok}
    {aT3 : Addr} {oT3 : Option Addr} {nT3 : Nat} {sT3 : Array (Option Value)} {tt3_0 tt3_1 tt3_2 : Tok}
    {aT4 : Addr} {oT4 : Option Addr} {nT4 : Nat} {sT4 : Array (Option Value)} {tt4_0 tt4_1 tt4_2 tt4_3 : Tok}
    {aT5 : Addr} {oT5 : Option Addr} {nT5 : Nat} {sT5 : Array (Option Value)} {tt5_0 tt5_1 tt5_2 tt5_3 : Tok}
    (a0 : PySem.W.nsIn K mainGlobals "classes_of" = some (some (.ref f0)))
    (l0 : K.lookup f0 = some ⟨oc0, od0, .func (PySem.W.fnOf "classes_of" "classes_of" (defArgs sClassesOf) (defBody sClassesOf) (defScope sClassesOf) .none kV0 dc0 pm0 an0 cd0 ct0), sl0⟩)
    (c0 : PySem.W.codeIn K cd0 "classes_of" = true)
    (k0 : PySem.W.keepIn K (.ref f0) = true)
    (a1 : PySem.W.nsIn K mainGlobals "cell_behind" = some (some (.ref f1)))
    (l1 : K.lookup f1 = some ⟨oc1, od1, .func (PySem.W.fnOf "cell_behind" "cell_behind" (defArgs sCellBehind) (defBody sCellBehind) (defScope sCellBehind) .none kV1 dc1 pm1 an1 cd1 ct1), sl1⟩)
    (c1 : PySem.W.codeIn K cd1 "cell_behind" = true)
    (k1 : PySem.W.keepIn K (.ref f1) = true)
    (a2 : PySem.W.nsIn K mainGlobals "cells_seen" = some (some (.ref f2)))
    (l2 : K.lookup f2 = some ⟨oc2, od2, .func (PySem.W.fnOf "cells_seen" "cells_seen" (defArgs sCellsSeen) (defBody sCellsSeen) (defScope sCellsSeen) .none kV2 dc2 pm2 an2 cd2 ct2), sl2⟩)
    (c2 : PySem.W.codeIn K cd2 "cells_seen" = true)
    (k2 : PySem.W.keepIn K (.ref f2) = true)
    (a3 : PySem.W.nsIn K mainGlobals "spelled" = some (some (.ref f3)))
    (l3 : K.lookup f3 = some ⟨oc3, od3, .func (PySem.W.fnOf "spelled" "spelled" (defArgs sSpelled) (defBody sSpelled) (defScope sSpelled) .none kV3 dc3 pm3 an3 cd3 ct3), sl3⟩)
    (c3 : PySem.W.codeIn K cd3 "spelled" = true)
    (k3 : PySem.W.keepIn K (.ref f3) = true)
    (a4 : PySem.W.nsIn K mainGlobals "cut" = some (some (.ref f4)))
    (l4 : K.lookup f4 = some ⟨oc4, od4, .func (PySem.W.fnOf "cut" "cut" (defArgs sCut) (defBody sCut) (defScope sCut) .none kV4 dc4 pm4 an4 cd4 ct4), sl4⟩)
    (c4 : PySem.W.codeIn K cd4 "cut" = true)
    (k4 : PySem.W.keepIn K (.ref f4) = true)
    (a5 : PySem.W.nsIn K mainGlobals "whole_lines" = some (some (.ref f5)))
    (l5 : K.lookup f5 = some ⟨oc5, od5, .func (PySem.W.fnOf "whole_lines" "whole_lines" (defArgs sWholeLines) (defBody sWholeLines) (defScope sWholeLines) .none kV5 dc5 pm5 an5 cd5 ct5), sl5⟩)
    (c5 : PySem.W.codeIn K cd5 "whole_lines" = true)
    (k5 : PySem.W.keepIn K (.ref f5) = true)
    (a6 : PySem.W.nsIn K mainGlobals "place_among" = some (some (.ref f6)))
    (l6 : K.lookup f6 = some ⟨oc6, od6, .func (PySem.W.fnOf "place_among" "place_among" (defArgs sAmong) (defBody sAmong) (defScope sAmong) .none kV6 dc6 pm6 an6 cd6 ct6), sl6⟩)
    (c6 : PySem.W.codeIn K cd6 "place_among" = true)
    (k6 : PySem.W.keepIn K (.ref f6) = true)
    (a7 : PySem.W.nsIn K mainGlobals "places_in" = some (some (.ref f7)))
    (l7 : K.lookup f7 = some ⟨oc7, od7, .func (PySem.W.fnOf "places_in" "places_in" (defArgs sPlaces) (defBody sPlaces) (defScope sPlaces) .none kV7 dc7 pm7 an7 cd7 ct7), sl7⟩)
    (c7 : PySem.W.codeIn K cd7 "places_in" = true)
    (k7 : PySem.W.keepIn K (.ref f7) = true)
    (a8 : PySem.W.nsIn K mainGlobals "read_colours" = some (some (.ref f8)))
    (l8 : K.lookup f8 = some ⟨oc8, od8, .func (PySem.W.fnOf "read_colours" "read_colours" (defArgs sColours) (defBody sColours) (defScope sColours) .none kV8 dc8 pm8 an8 cd8 ct8), sl8⟩)
    (c8 : PySem.W.codeIn K cd8 "read_colours" = true)
    (k8 : PySem.W.keepIn K (.ref f8) = true)
    (a9 : PySem.W.nsIn K mainGlobals "is_name" = some (some (.ref f9)))
    (l9 : K.lookup f9 = some ⟨oc9, od9, .func (PySem.W.fnOf "is_name" "is_name" (defArgs sIsName) (defBody sIsName) (defScope sIsName) .none kV9 dc9 pm9 an9 cd9 ct9), sl9⟩)
    (c9 : PySem.W.codeIn K cd9 "is_name" = true)
    (k9 : PySem.W.keepIn K (.ref f9) = true)
    (a10 : PySem.W.nsIn K mainGlobals "name_behind" = some (some (.ref f10)))
    (l10 : K.lookup f10 = some ⟨oc10, od10, .func (PySem.W.fnOf "name_behind" "name_behind" (defArgs sNameBehind) (defBody sNameBehind) (defScope sNameBehind) .none kV10 dc10 pm10 an10 cd10 ct10), sl10⟩)
    (c10 : PySem.W.codeIn K cd10 "name_behind" = true)
    (k10 : PySem.W.keepIn K (.ref f10) = true)
    (a11 : PySem.W.nsIn K mainGlobals "read_locker" = some (some (.ref f11)))
    (l11 : K.lookup f11 = some ⟨oc11, od11, .func (PySem.W.fnOf "read_locker" "read_locker" (defArgs sReadLocker) (defBody sReadLocker) (defScope sReadLocker) .none kV11 dc11 pm11 an11 cd11 ct11), sl11⟩)
    (c11 : PySem.W.codeIn K cd11 "read_locker" = true)
    (k11 : PySem.W.keepIn K (.ref f11) = true)
    (a12 : PySem.W.nsIn K mainGlobals "read_name" = some (some (.ref f12)))
    (l12 : K.lookup f12 = some ⟨oc12, od12, .func (PySem.W.fnOf "read_name" "read_name" (defArgs sReadName) (defBody sReadName) (defScope sReadName) .none kV12 dc12 pm12 an12 cd12 ct12), sl12⟩)
    (c12 : PySem.W.codeIn K cd12 "read_name" = true)
    (k12 : PySem.W.keepIn K (.ref f12) = true)
    (a13 : PySem.W.nsIn K mainGlobals "read_digit" = some (some (.ref f13)))
    (l13 : K.lookup f13 = some ⟨oc13, od13, .func (PySem.W.fnOf "read_digit" "read_digit" (defArgs sReadDigit) (defBody sReadDigit) (defScope sReadDigit) .none kV13 dc13 pm13 an13 cd13 ct13), sl13⟩)
    (c13 : PySem.W.codeIn K cd13 "read_digit" = true)
    (k13 : PySem.W.keepIn K (.ref f13) = true)
    (a14 : PySem.W.nsIn K mainGlobals "read_kind" = some (some (.ref f14)))
    (l14 : K.lookup f14 = some ⟨oc14, od14, .func (PySem.W.fnOf "read_kind" "read_kind" (defArgs sReadKind) (defBody sReadKind) (defScope sReadKind) .none kV14 dc14 pm14 an14 cd14 ct14), sl14⟩)
    (c14 : PySem.W.codeIn K cd14 "read_kind" = true)
    (k14 : PySem.W.keepIn K (.ref f14) = true)
    (a15 : PySem.W.nsIn K mainGlobals "are_in_order" = some (some (.ref f15)))
    (l15 : K.lookup f15 = some ⟨oc15, od15, .func (PySem.W.fnOf "are_in_order" "are_in_order" (defArgs sAreInOrder) (defBody sAreInOrder) (defScope sAreInOrder) .none kV15 dc15 pm15 an15 cd15 ct15), sl15⟩)
    (c15 : PySem.W.codeIn K cd15 "are_in_order" = true)
    (k15 : PySem.W.keepIn K (.ref f15) = true)
    (a16 : PySem.W.nsIn K mainGlobals "may_follow" = some (some (.ref f16)))
    (l16 : K.lookup f16 = some ⟨oc16, od16, .func (PySem.W.fnOf "may_follow" "may_follow" (defArgs sMayFollow) (defBody sMayFollow) (defScope sMayFollow) .none kV16 dc16 pm16 an16 cd16 ct16), sl16⟩)
    (c16 : PySem.W.codeIn K cd16 "may_follow" = true)
    (k16 : PySem.W.keepIn K (.ref f16) = true)
    (a17 : PySem.W.nsIn K mainGlobals "are_different" = some (some (.ref f17)))
    (l17 : K.lookup f17 = some ⟨oc17, od17, .func (PySem.W.fnOf "are_different" "are_different" (defArgs sAreDifferent) (defBody sAreDifferent) (defScope sAreDifferent) .none kV17 dc17 pm17 an17 cd17 ct17), sl17⟩)
    (c17 : PySem.W.codeIn K cd17 "are_different" = true)
    (k17 : PySem.W.keepIn K (.ref f17) = true)
    (a18 : PySem.W.nsIn K mainGlobals "has_twice" = some (some (.ref f18)))
    (l18 : K.lookup f18 = some ⟨oc18, od18, .func (PySem.W.fnOf "has_twice" "has_twice" (defArgs sHasTwice) (defBody sHasTwice) (defScope sHasTwice) .none kV18 dc18 pm18 an18 cd18 ct18), sl18⟩)
    (c18 : PySem.W.codeIn K cd18 "has_twice" = true)
    (k18 : PySem.W.keepIn K (.ref f18) = true)
    (a19 : PySem.W.nsIn K mainGlobals "read_showing" = some (some (.ref f19)))
    (l19 : K.lookup f19 = some ⟨oc19, od19, .func (PySem.W.fnOf "read_showing" "read_showing" (defArgs sReadShowing) (defBody sReadShowing) (defScope sReadShowing) .none kV19 dc19 pm19 an19 cd19 ct19), sl19⟩)
    (c19 : PySem.W.codeIn K cd19 "read_showing" = true)
    (k19 : PySem.W.keepIn K (.ref f19) = true)
    (a20 : PySem.W.nsIn K mainGlobals "read_hoists" = some (some (.ref f20)))
    (l20 : K.lookup f20 = some ⟨oc20, od20, .func (PySem.W.fnOf "read_hoists" "read_hoists" (defArgs sReadHoists) (defBody sReadHoists) (defScope sReadHoists) .none kV20 dc20 pm20 an20 cd20 ct20), sl20⟩)
    (c20 : PySem.W.codeIn K cd20 "read_hoists" = true)
    (k20 : PySem.W.keepIn K (.ref f20) = true)
    (a21 : PySem.W.nsIn K mainGlobals "read_count" = some (some (.ref f21)))
    (l21 : K.lookup f21 = some ⟨oc21, od21, .func (PySem.W.fnOf "read_count" "read_count" (defArgs sReadCount) (defBody sReadCount) (defScope sReadCount) .none kV21 dc21 pm21 an21 cd21 ct21), sl21⟩)
    (c21 : PySem.W.codeIn K cd21 "read_count" = true)
    (k21 : PySem.W.keepIn K (.ref f21) = true)
    (a22 : PySem.W.nsIn K mainGlobals "is_out_of" = some (some (.ref f22)))
    (l22 : K.lookup f22 = some ⟨oc22, od22, .func (PySem.W.fnOf "is_out_of" "is_out_of" (defArgs sIsOutOf) (defBody sIsOutOf) (defScope sIsOutOf) .none kV22 dc22 pm22 an22 cd22 ct22), sl22⟩)
    (c22 : PySem.W.codeIn K cd22 "is_out_of" = true)
    (k22 : PySem.W.keepIn K (.ref f22) = true)
    (a23 : PySem.W.nsIn K mainGlobals "means_a_row" = some (some (.ref f23)))
    (l23 : K.lookup f23 = some ⟨oc23, od23, .func (PySem.W.fnOf "means_a_row" "means_a_row" (defArgs sMeansARow) (defBody sMeansARow) (defScope sMeansARow) .none kV23 dc23 pm23 an23 cd23 ct23), sl23⟩)
    (c23 : PySem.W.codeIn K cd23 "means_a_row" = true)
    (k23 : PySem.W.keepIn K (.ref f23) = true)
    (a24 : PySem.W.nsIn K mainGlobals "means_a_sign" = some (some (.ref f24)))
    (l24 : K.lookup f24 = some ⟨oc24, od24, .func (PySem.W.fnOf "means_a_sign" "means_a_sign" (defArgs sMeansASign) (defBody sMeansASign) (defScope sMeansASign) .none kV24 dc24 pm24 an24 cd24 ct24), sl24⟩)
    (c24 : PySem.W.codeIn K cd24 "means_a_sign" = true)
    (k24 : PySem.W.keepIn K (.ref f24) = true)
    (a25 : PySem.W.nsIn K mainGlobals "plate_text" = some (some (.ref f25)))
    (l25 : K.lookup f25 = some ⟨oc25, od25, .func (PySem.W.fnOf "plate_text" "plate_text" (defArgs sPlateText) (defBody sPlateText) (defScope sPlateText) .none kV25 dc25 pm25 an25 cd25 ct25), sl25⟩)
    (c25 : PySem.W.codeIn K cd25 "plate_text" = true)
    (k25 : PySem.W.keepIn K (.ref f25) = true)
    (a26 : PySem.W.nsIn K mainGlobals "hoist_line" = some (some (.ref f26)))
    (l26 : K.lookup f26 = some ⟨oc26, od26, .func (PySem.W.fnOf "hoist_line" "hoist_line" (defArgs sHoistLine) (defBody sHoistLine) (defScope sHoistLine) .none kV26 dc26 pm26 an26 cd26 ct26), sl26⟩)
    (c26 : PySem.W.codeIn K cd26 "hoist_line" = true)
    (k26 : PySem.W.keepIn K (.ref f26) = true)
    (a27 : PySem.W.nsIn K mainGlobals "cells_lines" = some (some (.ref f27)))
    (l27 : K.lookup f27 = some ⟨oc27, od27, .func (PySem.W.fnOf "cells_lines" "cells_lines" (defArgs sCellsLines) (defBody sCellsLines) (defScope sCellsLines) .none kV27 dc27 pm27 an27 cd27 ct27), sl27⟩)
    (c27 : PySem.W.codeIn K cd27 "cells_lines" = true)
    (k27 : PySem.W.keepIn K (.ref f27) = true)
    (a28 : PySem.W.nsIn K mainGlobals "signs_of" = some (some (.ref f28)))
    (l28 : K.lookup f28 = some ⟨oc28, od28, .func (PySem.W.fnOf "signs_of" "signs_of" (defArgs sSignsOf) (defBody sSignsOf) (defScope sSignsOf) .none kV28 dc28 pm28 an28 cd28 ct28), sl28⟩)
    (c28 : PySem.W.codeIn K cd28 "signs_of" = true)
    (k28 : PySem.W.keepIn K (.ref f28) = true)
    (a29 : PySem.W.nsIn K mainGlobals "sighting_of" = some (some (.ref f29)))
    (l29 : K.lookup f29 = some ⟨oc29, od29, .func (PySem.W.fnOf "sighting_of" "sighting_of" (defArgs sSightingOf) (defBody sSightingOf) (defScope sSightingOf) .none kV29 dc29 pm29 an29 cd29 ct29), sl29⟩)
    (c29 : PySem.W.codeIn K cd29 "sighting_of" = true)
    (k29 : PySem.W.keepIn K (.ref f29) = true)
    (a30 : PySem.W.nsIn K mainGlobals "draw" = some (some (.ref f30)))
    (l30 : K.lookup f30 = some ⟨oc30, od30, .func (PySem.W.fnOf "draw" "draw" (defArgs sDraw) (defBody sDraw) (defScope sDraw) .none kV30 dc30 pm30 an30 cd30 ct30), sl30⟩)
    (c30 : PySem.W.codeIn K cd30 "draw" = true)
    (k30 : PySem.W.keepIn K (.ref f30) = true)
    (a31 : PySem.W.nsIn K mainGlobals "plate_seen" = some (some (.ref f31)))
    (l31 : K.lookup f31 = some ⟨oc31, od31, .func (PySem.W.fnOf "plate_seen" "plate_seen" (defArgs sPlateSeen) (defBody sPlateSeen) (defScope sPlateSeen) .none kV31 dc31 pm31 an31 cd31 ct31), sl31⟩)
    (c31 : PySem.W.codeIn K cd31 "plate_seen" = true)
    (k31 : PySem.W.keepIn K (.ref f31) = true)
    (a32 : PySem.W.nsIn K mainGlobals "glimpse_of" = some (some (.ref f32)))
    (l32 : K.lookup f32 = some ⟨oc32, od32, .func (PySem.W.fnOf "glimpse_of" "glimpse_of" (defArgs sGlimpseOf) (defBody sGlimpseOf) (defScope sGlimpseOf) .none kV32 dc32 pm32 an32 cd32 ct32), sl32⟩)
    (c32 : PySem.W.codeIn K cd32 "glimpse_of" = true)
    (k32 : PySem.W.keepIn K (.ref f32) = true)
    (ka0 : PySem.W.nsIn K mainGlobals "Sighting" = some (some (.ref C0)))
    (kb0 : PySem.W.findIn K (.ref C0) "__init__" = some (some (.ref g0)))
    (kc0 : PySem.W.isFn K (.ref g0) = true)
    (kd0 : K.lookup g0 = some ⟨oC0, oDC0, .func (PySem.W.fnOf "__init__" "Sighting.__init__" (defArgs sSightingI) (defBody sSightingI) (defScope sSightingI) .none kC0 dC0 pC0 aC0 cC0 tC0), sC0⟩)
    (ke0 : PySem.W.codeIn K cC0 "Sighting.__init__" = true)
    (kf0 : PySem.W.keepIn K (.ref g0) = true)
    (kg0 : PySem.W.plainGet K C0 Str.empty = true)
    (kh0 : PySem.W.hasDictIn K C0 = true)
    (ki0 : PySem.W.plainOver K C0 = true)
    (kj0 : PySem.W.findIn K (.ref C0) "__setattr__" = some (some (.builtin "object.__setattr__")))
    (kk0 : PySem.W.makesIn K C0 = true)
    (kl0 : PySem.W.keepIn K (.ref C0) = true)
    (kn0_0 : PySem.W.findIn K (.ref C0) "shape" = some none)
    (kn0_1 : PySem.W.findIn K (.ref C0) "cells" = some none)
    (ka1 : PySem.W.nsIn K mainGlobals "Glimpse" = some (some (.ref C1)))
    (kb1 : PySem.W.findIn K (.ref C1) "__init__" = some (some (.ref g1)))
    (kc1 : PySem.W.isFn K (.ref g1) = true)
    (kd1 : K.lookup g1 = some ⟨oC1, oDC1, .func (PySem.W.fnOf "__init__" "Glimpse.__init__" (defArgs sGlimpseI) (defBody sGlimpseI) (defScope sGlimpseI) .none kC1 dC1 pC1 aC1 cC1 tC1), sC1⟩)
    (ke1 : PySem.W.codeIn K cC1 "Glimpse.__init__" = true)
    (kf1 : PySem.W.keepIn K (.ref g1) = true)
    (kg1 : PySem.W.plainGet K C1 Str.empty = true)
    (kh1 : PySem.W.hasDictIn K C1 = true)
    (ki1 : PySem.W.plainOver K C1 = true)
    (kj1 : PySem.W.findIn K (.ref C1) "__setattr__" = some (some (.builtin "object.__setattr__")))
    (kk1 : PySem.W.makesIn K C1 = true)
    (kl1 : PySem.W.keepIn K (.ref C1) = true)
    (kn1_0 : PySem.W.findIn K (.ref C1) "above" = some none)
    (kn1_1 : PySem.W.findIn K (.ref C1) "below" = some none)
    (kn1_2 : PySem.W.findIn K (.ref C1) "flags" = some none)
    (ka2 : PySem.W.nsIn K mainGlobals "Plate" = some (some (.ref C2)))
    (kb2 : PySem.W.findIn K (.ref C2) "__init__" = some (some (.ref g2)))
    (kc2 : PySem.W.isFn K (.ref g2) = true)
    (kd2 : K.lookup g2 = some ⟨oC2, oDC2, .func (PySem.W.fnOf "__init__" "Plate.__init__" (defArgs sPlateI) (defBody sPlateI) (defScope sPlateI) .none kC2 dC2 pC2 aC2 cC2 tC2), sC2⟩)
    (ke2 : PySem.W.codeIn K cC2 "Plate.__init__" = true)
    (kf2 : PySem.W.keepIn K (.ref g2) = true)
    (kg2 : PySem.W.plainGet K C2 Str.empty = true)
    (kh2 : PySem.W.hasDictIn K C2 = true)
    (ki2 : PySem.W.plainOver K C2 = true)
    (kj2 : PySem.W.findIn K (.ref C2) "__setattr__" = some (some (.builtin "object.__setattr__")))
    (kk2 : PySem.W.makesIn K C2 = true)
    (kl2 : PySem.W.keepIn K (.ref C2) = true)
    (kn2_0 : PySem.W.findIn K (.ref C2) "side" = some none)
    (kn2_1 : PySem.W.findIn K (.ref C2) "classes" = some none)
    (kn2_2 : PySem.W.findIn K (.ref C2) "glimpses" = some none)
    (ka3 : PySem.W.nsIn K mainGlobals "Kind" = some (some (.ref C3)))
    (kb3 : PySem.W.findIn K (.ref C3) "__init__" = some (some (.ref g3)))
    (kc3 : PySem.W.isFn K (.ref g3) = true)
    (kd3 : K.lookup g3 = some ⟨oC3, oDC3, .func (PySem.W.fnOf "__init__" "Kind.__init__" (defArgs sKindI) (defBody sKindI) (defScope sKindI) .none kC3 dC3 pC3 aC3 cC3 tC3), sC3⟩)
    (ke3 : PySem.W.codeIn K cC3 "Kind.__init__" = true)
    (kf3 : PySem.W.keepIn K (.ref g3) = true)
    (kg3 : PySem.W.plainGet K C3 Str.empty = true)
    (kh3 : PySem.W.hasDictIn K C3 = true)
    (ki3 : PySem.W.plainOver K C3 = true)
    (kj3 : PySem.W.findIn K (.ref C3) "__setattr__" = some (some (.builtin "object.__setattr__")))
    (kk3 : PySem.W.makesIn K C3 = true)
    (kl3 : PySem.W.keepIn K (.ref C3) = true)
    (kn3_0 : PySem.W.findIn K (.ref C3) "role" = some none)
    (kn3_1 : PySem.W.findIn K (.ref C3) "name" = some none)
    (kn3_2 : PySem.W.findIn K (.ref C3) "which" = some none)
    (kn3_3 : PySem.W.findIn K (.ref C3) "copies" = some none)
    (kn3_4 : PySem.W.findIn K (.ref C3) "shape" = some none)
    (kn3_5 : PySem.W.findIn K (.ref C3) "look" = some none)
    (ka4 : PySem.W.nsIn K mainGlobals "Locker" = some (some (.ref C4)))
    (kb4 : PySem.W.findIn K (.ref C4) "__init__" = some (some (.ref g4)))
    (kc4 : PySem.W.isFn K (.ref g4) = true)
    (kd4 : K.lookup g4 = some ⟨oC4, oDC4, .func (PySem.W.fnOf "__init__" "Locker.__init__" (defArgs sLockerI) (defBody sLockerI) (defScope sLockerI) .none kC4 dC4 pC4 aC4 cC4 tC4), sC4⟩)
    (ke4 : PySem.W.codeIn K cC4 "Locker.__init__" = true)
    (kf4 : PySem.W.keepIn K (.ref g4) = true)
    (kg4 : PySem.W.plainGet K C4 Str.empty = true)
    (kh4 : PySem.W.hasDictIn K C4 = true)
    (ki4 : PySem.W.plainOver K C4 = true)
    (kj4 : PySem.W.findIn K (.ref C4) "__setattr__" = some (some (.builtin "object.__setattr__")))
    (kk4 : PySem.W.makesIn K C4 = true)
    (kl4 : PySem.W.keepIn K (.ref C4) = true)
    (kn4_0 : PySem.W.findIn K (.ref C4) "name" = some none)
    (kn4_1 : PySem.W.findIn K (.ref C4) "kinds" = some none)
    (xa0 : PySem.W.nsIn K mainGlobals "NoLocker" = some (some (.ref CE0)))
    (xb0 : K.lookup CE0 = some ⟨.type "type", odX0_1, .cls ⟨nmX0, bsX0, .ref CE0 :: excMro, NX0, qnX0, true, snX0, subX0, abX0, colX0, false⟩, #[eX0_0, eX0_1, eX0_2, eX0_3, some (.builtin "Exception.__new__"), eX0_5]⟩)
    (xb20 : K.lookup NX0 = some ⟨ocX0, odX0_2, .dict esX0 epX0, slX0⟩)
    (xb30 : (esX0.all fun e => match e.key with | .str _ _ => true | _ => false) = true)
    (xc0 : PySem.W.nsIn K NX0 "__getattribute__" = some none)
    (xd0 : PySem.W.nsIn K NX0 "__getattr__" = some none)
    (xe0 : PySem.W.nsIn K NX0 "__setattr__" = some none)
    (xf0 : PySem.W.nsIn K NX0 "__init__" = some none)
    (xk0 : PySem.W.keepIn K (.ref CE0) = true)
    (xa1 : PySem.W.nsIn K mainGlobals "NoShowing" = some (some (.ref CE1)))
    (xb1 : K.lookup CE1 = some ⟨.type "type", odX1_1, .cls ⟨nmX1, bsX1, .ref CE1 :: excMro, NX1, qnX1, true, snX1, subX1, abX1, colX1, false⟩, #[eX1_0, eX1_1, eX1_2, eX1_3, some (.builtin "Exception.__new__"), eX1_5]⟩)
    (xb21 : K.lookup NX1 = some ⟨ocX1, odX1_2, .dict esX1 epX1, slX1⟩)
    (xb31 : (esX1.all fun e => match e.key with | .str _ _ => true | _ => false) = true)
    (xc1 : PySem.W.nsIn K NX1 "__getattribute__" = some none)
    (xd1 : PySem.W.nsIn K NX1 "__getattr__" = some none)
    (xe1 : PySem.W.nsIn K NX1 "__setattr__" = some none)
    (xf1 : PySem.W.nsIn K NX1 "__init__" = some none)
    (xk1 : PySem.W.keepIn K (.ref CE1) = true)
    (ci0 : PySem.W.nsIn K mainGlobals "BEHIND" = some (some (.int 1 ti0)))
    (ci1 : PySem.W.nsIn K mainGlobals "COLOURS" = some (some (.int 16 ti1)))
    (ci2 : PySem.W.nsIn K mainGlobals "CELLS" = some (some (.int 16 ti2)))
    (ci3 : PySem.W.nsIn K mainGlobals "ROW" = some (some (.int 4 ti3)))
    (ci4 : PySem.W.nsIn K mainGlobals "MOST_BYTES" = some (some (.int 65536 ti4)))
    (ci5 : PySem.W.nsIn K mainGlobals "LINE_END" = some (some (.int 10 ti5)))
    (ci6 : PySem.W.nsIn K mainGlobals "BLANK" = some (some (.int 32 ti6)))
    (ci7 : PySem.W.nsIn K mainGlobals "LONGEST_NAME" = some (some (.int 8 ti7)))
    (ci8 : PySem.W.nsIn K mainGlobals "SIGN" = some (some (.int 0 ti8)))
    (ci9 : PySem.W.nsIn K mainGlobals "SAME" = some (some (.int 1 ti9)))
    (ci10 : PySem.W.nsIn K mainGlobals "MOST_COPIES" = some (some (.int 8 ti10)))
    (ci11 : PySem.W.nsIn K mainGlobals "MOST_SAME" = some (some (.int 4 ti11)))
    (ci12 : PySem.W.nsIn K mainGlobals "MOST_SIGNS" = some (some (.int 48 ti12)))
    (ci13 : PySem.W.nsIn K mainGlobals "DIGIT_ZERO" = some (some (.int 48 ti13)))
    (ci14 : PySem.W.nsIn K mainGlobals "MOST_HOISTS" = some (some (.int 4 ti14)))
    (ci15 : PySem.W.nsIn K mainGlobals "MOST_FLAGS" = some (some (.int 8 ti15)))
    (cs0 : PySem.W.nsIn K mainGlobals "COLOUR_SIGNS" = some (some (.str "0123456789abcdef" ts0)))
    (cs1 : PySem.W.nsIn K mainGlobals "NAME_SIGNS" = some (some (.str "ABCDEFGHIJKLMNOPQRSTUVWXYZ0123456789" ts1)))
    (cs2 : PySem.W.nsIn K mainGlobals "SEEN_SIGNS" = some (some (.str "0123456789abcdef?" ts2)))
    (ct0 : PySem.W.nsIn K mainGlobals "SHAPES" = some (some (.ref aT0)))
    (cu0 : K.lookup aT0 = some ⟨.type "tuple", oT0, .seq #[.str "square" tt0_0, .str "tails" tt0_1, .str "long" tt0_2] nT0, sT0⟩)
    (ct1 : PySem.W.nsIn K mainGlobals "ROLES" = some (some (.ref aT1)))
    (cu1 : K.lookup aT1 = some ⟨.type "tuple", oT1, .seq #[.str "sign" tt1_0, .str "same" tt1_1, .str "answer" tt1_2] nT1, sT1⟩)
    (ct2 : PySem.W.nsIn K mainGlobals "WORDS_OF_ROLES" = some (some (.ref aT2)))
    (cu2 : K.lookup aT2 = some ⟨.type "tuple", oT2, .seq #[.int 5 tt2_0, .int 5 tt2_1, .int 4 tt2_2] nT2, sT2⟩)
    (ct3 : PySem.W.nsIn K mainGlobals "SIDES" = some (some (.ref aT3)))
    (cu3 : K.lookup aT3 = some ⟨.type "tuple", oT3, .seq #[.str "front" tt3_0, .str "behind" tt3_1, .str "unknown" tt3_2] nT3, sT3⟩)
    (ct4 : PySem.W.nsIn K mainGlobals "HOIST_LINES" = some (some (.ref aT4)))
    (cu4 : K.lookup aT4 = some ⟨.type "tuple", oT4, .seq #[.str "hoist" tt4_0, .str "hoist above" tt4_1, .str "hoist below" tt4_2, .str "hoist above below" tt4_3] nT4, sT4⟩)
    (ct5 : PySem.W.nsIn K mainGlobals "SEEN_SHAPES" = some (some (.ref aT5)))
    (cu5 : K.lookup aT5 = some ⟨.type "tuple", oT5, .seq #[.str "square" tt5_0, .str "tails" tt5_1, .str "long" tt5_2, .str "shape?" tt5_3] nT5, sT5⟩)
    (z0 : PySem.W.nsIn K mainGlobals "ord" = some none)
    (z1 : PySem.W.nsIn K mainGlobals "enumerate" = some none)
    (z2 : PySem.W.nsIn K mainGlobals "all" = some none)
    (z3 : PySem.W.nsIn K mainGlobals "any" = some none)
    (z4 : PySem.W.nsIn K mainGlobals "len" = some none)
    (z5 : PySem.W.nsIn K mainGlobals "range" = some none) :
    ∃ fd : FuncData, (∀ (s : Shared) (us : List Value), us.length = (["light", "side", "t", "s"] : List Str).length → BindsTo s fd ⟨us, []⟩ ((["light", "side", "t", "s"] : List Str).zip us)) ∧ ∀ base : Heap, K.In base → base.Ns mainGlobals mg → FnOk P w K mg base CX0 7 fa fd ["light", "side", "t", "s"] (spDraw K) := by
  have e := hfa.symm.trans (PySem.W.mg_of X G a30)
  cases e
  have D0 : Def K mg "classes_of" sClassesOf ["light"] := ⟨_, _, fun_mk (st := sClassesOf) l0 c0 k0, PySem.W.mg_of X G a0, k0, (fun_mk (st := sClassesOf) l0 c0 k0).binds (ps := ["light"]) fun _ _ _ _ _ _ us hl => match us, hl with | [_], _ => rfl⟩
  have D1 : Def K mg "cell_behind" sCellBehind ["cell"] := ⟨_, _, fun_mk (st := sCellBehind) l1 c1 k1, PySem.W.mg_of X G a1, k1, (fun_mk (st := sCellBehind) l1 c1 k1).binds (ps := ["cell"]) fun _ _ _ _ _ _ us hl => match us, hl with | [_], _ => rfl⟩
  have D2 : Def K mg "cells_seen" sCellsSeen ["look", "classes", "side"] := ⟨_, _, fun_mk (st := sCellsSeen) l2 c2 k2, PySem.W.mg_of X G a2, k2, (fun_mk (st := sCellsSeen) l2 c2 k2).binds (ps := ["look", "classes", "side"]) fun _ _ _ _ _ _ us hl => match us, hl with | [_, _, _], _ => rfl⟩
  have D3 : Def K mg "spelled" sSpelled ["written"] := ⟨_, _, fun_mk (st := sSpelled) l3 c3 k3, PySem.W.mg_of X G a3, k3, (fun_mk (st := sSpelled) l3 c3 k3).binds (ps := ["written"]) fun _ _ _ _ _ _ us hl => match us, hl with | [_], _ => rfl⟩
  have D4 : Def K mg "cut" sCut ["text", "mark"] := ⟨_, _, fun_mk (st := sCut) l4 c4 k4, PySem.W.mg_of X G a4, k4, (fun_mk (st := sCut) l4 c4 k4).binds (ps := ["text", "mark"]) fun _ _ _ _ _ _ us hl => match us, hl with | [_, _], _ => rfl⟩
  have D5 : Def K mg "whole_lines" sWholeLines ["text"] := ⟨_, _, fun_mk (st := sWholeLines) l5 c5 k5, PySem.W.mg_of X G a5, k5, (fun_mk (st := sWholeLines) l5 c5 k5).binds (ps := ["text"]) fun _ _ _ _ _ _ us hl => match us, hl with | [_], _ => rfl⟩
  have D6 : Def K mg "place_among" sAmong ["words", "part"] := ⟨_, _, fun_mk (st := sAmong) l6 c6 k6, PySem.W.mg_of X G a6, k6, (fun_mk (st := sAmong) l6 c6 k6).binds (ps := ["words", "part"]) fun _ _ _ _ _ _ us hl => match us, hl with | [_, _], _ => rfl⟩
  have D7 : Def K mg "places_in" sPlaces ["signs", "part"] := ⟨_, _, fun_mk (st := sPlaces) l7 c7 k7, PySem.W.mg_of X G a7, k7, (fun_mk (st := sPlaces) l7 c7 k7).binds (ps := ["signs", "part"]) fun _ _ _ _ _ _ us hl => match us, hl with | [_, _], _ => rfl⟩
  have D8 : Def K mg "read_colours" sColours ["part"] := ⟨_, _, fun_mk (st := sColours) l8 c8 k8, PySem.W.mg_of X G a8, k8, (fun_mk (st := sColours) l8 c8 k8).binds (ps := ["part"]) fun _ _ _ _ _ _ us hl => match us, hl with | [_], _ => rfl⟩
  have D9 : Def K mg "is_name" sIsName ["part"] := ⟨_, _, fun_mk (st := sIsName) l9 c9 k9, PySem.W.mg_of X G a9, k9, (fun_mk (st := sIsName) l9 c9 k9).binds (ps := ["part"]) fun _ _ _ _ _ _ us hl => match us, hl with | [_], _ => rfl⟩
  have D10 : Def K mg "name_behind" sNameBehind ["title", "line"] := ⟨_, _, fun_mk (st := sNameBehind) l10 c10 k10, PySem.W.mg_of X G a10, k10, (fun_mk (st := sNameBehind) l10 c10 k10).binds (ps := ["title", "line"]) fun _ _ _ _ _ _ us hl => match us, hl with | [_, _], _ => rfl⟩
  have D11 : Def K mg "read_locker" sReadLocker ["text"] := ⟨_, _, fun_mk (st := sReadLocker) l11 c11 k11, PySem.W.mg_of X G a11, k11, (fun_mk (st := sReadLocker) l11 c11 k11).binds (ps := ["text"]) fun _ _ _ _ _ _ us hl => match us, hl with | [_], _ => rfl⟩
  have D12 : Def K mg "read_name" sReadName ["word"] := ⟨_, _, fun_mk (st := sReadName) l12 c12 k12, PySem.W.mg_of X G a12, k12, (fun_mk (st := sReadName) l12 c12 k12).binds (ps := ["word"]) fun _ _ _ _ _ _ us hl => match us, hl with | [_], _ => rfl⟩
  have D13 : Def K mg "read_digit" sReadDigit ["word", "most"] := ⟨_, _, fun_mk (st := sReadDigit) l13 c13 k13, PySem.W.mg_of X G a13, k13, (fun_mk (st := sReadDigit) l13 c13 k13).binds (ps := ["word", "most"]) fun _ _ _ _ _ _ us hl => match us, hl with | [_, _], _ => rfl⟩
  have D14 : Def K mg "read_kind" sReadKind ["line"] := ⟨_, _, fun_mk (st := sReadKind) l14 c14 k14, PySem.W.mg_of X G a14, k14, (fun_mk (st := sReadKind) l14 c14 k14).binds (ps := ["line"]) fun _ _ _ _ _ _ us hl => match us, hl with | [_], _ => rfl⟩
  have D15 : Def K mg "are_in_order" sAreInOrder ["kinds"] := ⟨_, _, fun_mk (st := sAreInOrder) l15 c15 k15, PySem.W.mg_of X G a15, k15, (fun_mk (st := sAreInOrder) l15 c15 k15).binds (ps := ["kinds"]) fun _ _ _ _ _ _ us hl => match us, hl with | [_], _ => rfl⟩
  have D16 : Def K mg "may_follow" sMayFollow ["before", "kind"] := ⟨_, _, fun_mk (st := sMayFollow) l16 c16 k16, PySem.W.mg_of X G a16, k16, (fun_mk (st := sMayFollow) l16 c16 k16).binds (ps := ["before", "kind"]) fun _ _ _ _ _ _ us hl => match us, hl with | [_, _], _ => rfl⟩
  have D17 : Def K mg "are_different" sAreDifferent ["kinds"] := ⟨_, _, fun_mk (st := sAreDifferent) l17 c17 k17, PySem.W.mg_of X G a17, k17, (fun_mk (st := sAreDifferent) l17 c17 k17).binds (ps := ["kinds"]) fun _ _ _ _ _ _ us hl => match us, hl with | [_], _ => rfl⟩
  have D18 : Def K mg "has_twice" sHasTwice ["things"] := ⟨_, _, fun_mk (st := sHasTwice) l18 c18 k18, PySem.W.mg_of X G a18, k18, (fun_mk (st := sHasTwice) l18 c18 k18).binds (ps := ["things"]) fun _ _ _ _ _ _ us hl => match us, hl with | [_], _ => rfl⟩
  have D19 : Def K mg "read_showing" sReadShowing ["locker", "numbers"] := ⟨_, _, fun_mk (st := sReadShowing) l19 c19 k19, PySem.W.mg_of X G a19, k19, (fun_mk (st := sReadShowing) l19 c19 k19).binds (ps := ["locker", "numbers"]) fun _ _ _ _ _ _ us hl => match us, hl with | [_, _], _ => rfl⟩
  have D20 : Def K mg "read_hoists" sReadHoists ["numbers"] := ⟨_, _, fun_mk (st := sReadHoists) l20 c20 k20, PySem.W.mg_of X G a20, k20, (fun_mk (st := sReadHoists) l20 c20 k20).binds (ps := ["numbers"]) fun _ _ _ _ _ _ us hl => match us, hl with | [_], _ => rfl⟩
  have D21 : Def K mg "read_count" sReadCount ["numbers", "place", "most"] := ⟨_, _, fun_mk (st := sReadCount) l21 c21 k21, PySem.W.mg_of X G a21, k21, (fun_mk (st := sReadCount) l21 c21 k21).binds (ps := ["numbers", "place", "most"]) fun _ _ _ _ _ _ us hl => match us, hl with | [_, _, _], _ => rfl⟩
  have D22 : Def K mg "is_out_of" sIsOutOf ["locker", "hoists"] := ⟨_, _, fun_mk (st := sIsOutOf) l22 c22 k22, PySem.W.mg_of X G a22, k22, (fun_mk (st := sIsOutOf) l22 c22 k22).binds (ps := ["locker", "hoists"]) fun _ _ _ _ _ _ us hl => match us, hl with | [_, _], _ => rfl⟩
  have D23 : Def K mg "means_a_row" sMeansARow ["kinds", "hoist"] := ⟨_, _, fun_mk (st := sMeansARow) l23 c23 k23, PySem.W.mg_of X G a23, k23, (fun_mk (st := sMeansARow) l23 c23 k23).binds (ps := ["kinds", "hoist"]) fun _ _ _ _ _ _ us hl => match us, hl with | [_, _], _ => rfl⟩
  have D24 : Def K mg "means_a_sign" sMeansASign ["kind", "above"] := ⟨_, _, fun_mk (st := sMeansASign) l24 c24 k24, PySem.W.mg_of X G a24, k24, (fun_mk (st := sMeansASign) l24 c24 k24).binds (ps := ["kind", "above"]) fun _ _ _ _ _ _ us hl => match us, hl with | [_, _], _ => rfl⟩
  have D25 : Def K mg "plate_text" sPlateText ["plate"] := ⟨_, _, fun_mk (st := sPlateText) l25 c25 k25, PySem.W.mg_of X G a25, k25, (fun_mk (st := sPlateText) l25 c25 k25).binds (ps := ["plate"]) fun _ _ _ _ _ _ us hl => match us, hl with | [_], _ => rfl⟩
  have D26 : Def K mg "hoist_line" sHoistLine ["glimpse"] := ⟨_, _, fun_mk (st := sHoistLine) l26 c26 k26, PySem.W.mg_of X G a26, k26, (fun_mk (st := sHoistLine) l26 c26 k26).binds (ps := ["glimpse"]) fun _ _ _ _ _ _ us hl => match us, hl with | [_], _ => rfl⟩
  have D27 : Def K mg "cells_lines" sCellsLines ["cells"] := ⟨_, _, fun_mk (st := sCellsLines) l27 c27 k27, PySem.W.mg_of X G a27, k27, (fun_mk (st := sCellsLines) l27 c27 k27).binds (ps := ["cells"]) fun _ _ _ _ _ _ us hl => match us, hl with | [_], _ => rfl⟩
  have D28 : Def K mg "signs_of" sSignsOf ["places"] := ⟨_, _, fun_mk (st := sSignsOf) l28 c28 k28, PySem.W.mg_of X G a28, k28, (fun_mk (st := sSignsOf) l28 c28 k28).binds (ps := ["places"]) fun _ _ _ _ _ _ us hl => match us, hl with | [_], _ => rfl⟩
  have D29 : Def K mg "sighting_of" sSightingOf ["kind", "classes", "side"] := ⟨_, _, fun_mk (st := sSightingOf) l29 c29 k29, PySem.W.mg_of X G a29, k29, (fun_mk (st := sSightingOf) l29 c29 k29).binds (ps := ["kind", "classes", "side"]) fun _ _ _ _ _ _ us hl => match us, hl with | [_, _, _], _ => rfl⟩
  have D30 : Def K mg "draw" sDraw ["light", "side", "t", "s"] := ⟨_, _, fun_mk (st := sDraw) l30 c30 k30, PySem.W.mg_of X G a30, k30, (fun_mk (st := sDraw) l30 c30 k30).binds (ps := ["light", "side", "t", "s"]) fun _ _ _ _ _ _ us hl => match us, hl with | [_, _, _, _], _ => rfl⟩
  have D31 : Def K mg "plate_seen" sPlateSeen ["locker", "hoists", "classes", "side"] := ⟨_, _, fun_mk (st := sPlateSeen) l31 c31 k31, PySem.W.mg_of X G a31, k31, (fun_mk (st := sPlateSeen) l31 c31 k31).binds (ps := ["locker", "hoists", "classes", "side"]) fun _ _ _ _ _ _ us hl => match us, hl with | [_, _, _, _], _ => rfl⟩
  have D32 : Def K mg "glimpse_of" sGlimpseOf ["locker", "hoist", "classes", "side"] := ⟨_, _, fun_mk (st := sGlimpseOf) l32 c32 k32, PySem.W.mg_of X G a32, k32, (fun_mk (st := sGlimpseOf) l32 c32 k32).binds (ps := ["locker", "hoist", "classes", "side"]) fun _ _ _ _ _ _ us hl => match us, hl with | [_, _, _, _], _ => rfl⟩
  have I_BEHIND : Cn mg "BEHIND" (.int 1) := ⟨_, PySem.W.mg_of X G ci0, ⟨_, rfl⟩⟩
  have I_COLOURS : Cn mg "COLOURS" (.int 16) := ⟨_, PySem.W.mg_of X G ci1, ⟨_, rfl⟩⟩
  have I_CELLS : Cn mg "CELLS" (.int 16) := ⟨_, PySem.W.mg_of X G ci2, ⟨_, rfl⟩⟩
  have I_ROW : Cn mg "ROW" (.int 4) := ⟨_, PySem.W.mg_of X G ci3, ⟨_, rfl⟩⟩
  have I_MOST_BYTES : Cn mg "MOST_BYTES" (.int 65536) := ⟨_, PySem.W.mg_of X G ci4, ⟨_, rfl⟩⟩
  have I_LINE_END : Cn mg "LINE_END" (.int 10) := ⟨_, PySem.W.mg_of X G ci5, ⟨_, rfl⟩⟩
  have I_BLANK : Cn mg "BLANK" (.int 32) := ⟨_, PySem.W.mg_of X G ci6, ⟨_, rfl⟩⟩
  have I_LONGEST_NAME : Cn mg "LONGEST_NAME" (.int 8) := ⟨_, PySem.W.mg_of X G ci7, ⟨_, rfl⟩⟩
  have I_SIGN : Cn mg "SIGN" (.int 0) := ⟨_, PySem.W.mg_of X G ci8, ⟨_, rfl⟩⟩
  have I_SAME : Cn mg "SAME" (.int 1) := ⟨_, PySem.W.mg_of X G ci9, ⟨_, rfl⟩⟩
  have I_MOST_COPIES : Cn mg "MOST_COPIES" (.int 8) := ⟨_, PySem.W.mg_of X G ci10, ⟨_, rfl⟩⟩
  have I_MOST_SAME : Cn mg "MOST_SAME" (.int 4) := ⟨_, PySem.W.mg_of X G ci11, ⟨_, rfl⟩⟩
  have I_MOST_SIGNS : Cn mg "MOST_SIGNS" (.int 48) := ⟨_, PySem.W.mg_of X G ci12, ⟨_, rfl⟩⟩
  have I_DIGIT_ZERO : Cn mg "DIGIT_ZERO" (.int 48) := ⟨_, PySem.W.mg_of X G ci13, ⟨_, rfl⟩⟩
  have I_MOST_HOISTS : Cn mg "MOST_HOISTS" (.int 4) := ⟨_, PySem.W.mg_of X G ci14, ⟨_, rfl⟩⟩
  have I_MOST_FLAGS : Cn mg "MOST_FLAGS" (.int 8) := ⟨_, PySem.W.mg_of X G ci15, ⟨_, rfl⟩⟩
  have S_COLOUR_SIGNS : Cn mg "COLOUR_SIGNS" (.str "0123456789abcdef") := ⟨_, PySem.W.mg_of X G cs0, ⟨_, rfl⟩⟩
  have S_NAME_SIGNS : Cn mg "NAME_SIGNS" (.str "ABCDEFGHIJKLMNOPQRSTUVWXYZ0123456789") := ⟨_, PySem.W.mg_of X G cs1, ⟨_, rfl⟩⟩
  have S_SEEN_SIGNS : Cn mg "SEEN_SIGNS" (.str "0123456789abcdef?") := ⟨_, PySem.W.mg_of X G cs2, ⟨_, rfl⟩⟩
  have T_SHAPES : Tn K mg "SHAPES" ((["square", "tails", "long"] : List Str).map V.str) := ⟨_, PySem.W.mg_of X G ct0, fun _ => .inr ⟨_, _, _, cu0, rfl, rfl, (by show 3 ≤ sizeLine; decide), (.cons ⟨_, rfl⟩ (.cons ⟨_, rfl⟩ (.cons ⟨_, rfl⟩ .nil)))⟩⟩
  have T_ROLES : Tn K mg "ROLES" ((["sign", "same", "answer"] : List Str).map V.str) := ⟨_, PySem.W.mg_of X G ct1, fun _ => .inr ⟨_, _, _, cu1, rfl, rfl, (by show 3 ≤ sizeLine; decide), (.cons ⟨_, rfl⟩ (.cons ⟨_, rfl⟩ (.cons ⟨_, rfl⟩ .nil)))⟩⟩
  have T_WORDS_OF_ROLES : Tn K mg "WORDS_OF_ROLES" (([5, 5, 4] : List Int).map V.int) := ⟨_, PySem.W.mg_of X G ct2, fun _ => .inr ⟨_, _, _, cu2, rfl, rfl, (by show 3 ≤ sizeLine; decide), (.cons ⟨_, rfl⟩ (.cons ⟨_, rfl⟩ (.cons ⟨_, rfl⟩ .nil)))⟩⟩
  have T_SIDES : Tn K mg "SIDES" ((["front", "behind", "unknown"] : List Str).map V.str) := ⟨_, PySem.W.mg_of X G ct3, fun _ => .inr ⟨_, _, _, cu3, rfl, rfl, (by show 3 ≤ sizeLine; decide), (.cons ⟨_, rfl⟩ (.cons ⟨_, rfl⟩ (.cons ⟨_, rfl⟩ .nil)))⟩⟩
  have T_HOIST_LINES : Tn K mg "HOIST_LINES" ((["hoist", "hoist above", "hoist below", "hoist above below"] : List Str).map V.str) := ⟨_, PySem.W.mg_of X G ct4, fun _ => .inr ⟨_, _, _, cu4, rfl, rfl, (by show 4 ≤ sizeLine; decide), (.cons ⟨_, rfl⟩ (.cons ⟨_, rfl⟩ (.cons ⟨_, rfl⟩ (.cons ⟨_, rfl⟩ .nil))))⟩⟩
  have T_SEEN_SHAPES : Tn K mg "SEEN_SHAPES" ((["square", "tails", "long", "shape?"] : List Str).map V.str) := ⟨_, PySem.W.mg_of X G ct5, fun _ => .inr ⟨_, _, _, cu5, rfl, rfl, (by show 4 ≤ sizeLine; decide), (.cons ⟨_, rfl⟩ (.cons ⟨_, rfl⟩ (.cons ⟨_, rfl⟩ (.cons ⟨_, rfl⟩ .nil))))⟩⟩
  have Z_ord : mg "ord" = none := PySem.W.mg_none_of X G z0
  have Z_enumerate : mg "enumerate" = none := PySem.W.mg_none_of X G z1
  have Z_all : mg "all" = none := PySem.W.mg_none_of X G z2
  have Z_any : mg "any" = none := PySem.W.mg_none_of X G z3
  have Z_len : mg "len" = none := PySem.W.mg_none_of X G z4
  have Z_range : mg "range" = none := PySem.W.mg_none_of X G z5
  have FC0 := fun_mk (st := sSightingI) kd0 ke0 kf0
  have BC0 := FC0.binds (ps := ["self", "shape", "cells"]) fun _ _ _ _ _ _ us hl => match us, hl with | [_, _, _], _ => rfl
  have FC1 := fun_mk (st := sGlimpseI) kd1 ke1 kf1
  have BC1 := FC1.binds (ps := ["self", "above", "below", "flags"]) fun _ _ _ _ _ _ us hl => match us, hl with | [_, _, _, _], _ => rfl
  have FC2 := fun_mk (st := sPlateI) kd2 ke2 kf2
  have BC2 := FC2.binds (ps := ["self", "side", "classes", "glimpses"]) fun _ _ _ _ _ _ us hl => match us, hl with | [_, _, _, _], _ => rfl
  have FC3 := fun_mk (st := sKindI) kd3 ke3 kf3
  have BC3 := FC3.binds (ps := ["self", "role", "name", "which", "copies", "shape", "look"]) fun _ _ _ _ _ _ us hl => match us, hl with | [_, _, _, _, _, _, _], _ => rfl
  have FC4 := fun_mk (st := sLockerI) kd4 ke4 kf4
  have BC4 := FC4.binds (ps := ["self", "name", "kinds"]) fun _ _ _ _ _ _ us hl => match us, hl with | [_, _, _], _ => rfl
  have TC : CsT K ⟨C0, C1, C2⟩ := ⟨⟨kg0, kh0, ki0, kj0⟩, ⟨kg1, kh1, ki1, kj1⟩, ⟨kg2, kh2, ki2, kj2⟩, kn0_0, kn0_1, kn1_0, kn1_1, kn1_2, kn2_0, kn2_1, kn2_2⟩
  have TK : KdT K C3 := ⟨⟨kg3, kh3, ki3, kj3⟩, kn3_0, kn3_1, kn3_2, kn3_3, kn3_4, kn3_5⟩
  have TL : LkT K C4 := ⟨⟨kg4, kh4, ki4, kj4⟩, kn4_0, kn4_1⟩
  have XN : XpT K mg "NoLocker" CE0 NX0 := ⟨⟨xc_mk xb0 xb20 xb30, xc0, xd0, xe0⟩, xf0, PySem.W.mg_of X G xa0, xk0⟩
  have XS : XpT K mg "NoShowing" CE1 NX1 := ⟨⟨xc_mk xb1 xb21 xb31, xc1, xd1, xe1⟩, xf1, PySem.W.mg_of X G xa1, xk1⟩
  refine ⟨PySem.W.fnOf "draw" "draw" (defArgs sDraw) (defBody sDraw) (defScope sDraw) .none kV30 dc30 pm30 an30 cd30 ct30, fun s us hu => match us, hu with | [_, _, _, _], _ => .of_eq rfl, fun base _ _ => ?_⟩
  have dSp : Dn P w K mg base CX0 1 "spelled" ["written"] (spSpelled) := D3.dn fun f fd F => ok_spelled F Z_ord
  have dCut : Dn P w K mg base CX0 1 "cut" ["text", "mark"] (spCut K) := D4.dn fun f fd F => ok_cut F
  obtain ⟨fS, fdS, GS, mS, kS, bS⟩ := id dSp
  have dAm : Dn P w K mg base CX0 2 "place_among" ["words", "part"] (spAmong K) := D6.dn fun f fd F => ok_among F Z_enumerate GS mS kS bS
  have dPl : Dn P w K mg base CX0 2 "places_in" ["signs", "part"] (spPlaces K) := D7.dn fun f fd F => ok_places F Z_all GS mS kS bS
  obtain ⟨fP, fdP, GP, mP, kP, bP⟩ := id dPl
  obtain ⟨uC, mC, rC⟩ := S_COLOUR_SIGNS
  have dCo : Dn P w K mg base CX0 3 "read_colours" ["part"] (spColours K) := D8.dn fun f fd F => ok_colours F Z_len mC rC GP mP kP bP
  have dIN : Dn P w K mg base CX0 3 "is_name" ["part"] (spIsName K) := D9.dn fun f fd F => ok_isName F Z_len I_LONGEST_NAME S_NAME_SIGNS dPl
  have dNB : Dn P w K mg base CX0 4 "name_behind" ["title", "line"] (spNameBeh K) := D10.dn fun f fd F => ok_nameBeh F Z_len I_BLANK dCut dSp dIN
  have dWL : Dn P w K mg base CX0 2 "whole_lines" ["text"] (spWhole K) := D5.dn fun f fd F => ok_wholeL F I_LINE_END dCut
  have dMS : MkD P w K mg base "Sighting" C0 ["shape", "cells"] := ⟨_, _, ⟨kk0, kb0, kc0, kl0⟩, ok_sightingI FC0 TC, PySem.W.mg_of X G ka0, BC0⟩
  have dMG : MkD P w K mg base "Glimpse" C1 ["above", "below", "flags"] := ⟨_, _, ⟨kk1, kb1, kc1, kl1⟩, ok_glimpseI FC1 TC, PySem.W.mg_of X G ka1, BC1⟩
  have dMP : MkD P w K mg base "Plate" C2 ["side", "classes", "glimpses"] := ⟨_, _, ⟨kk2, kb2, kc2, kl2⟩, ok_plateI FC2 TC, PySem.W.mg_of X G ka2, BC2⟩
  have dMK : MkD P w K mg base "Kind" C3 ["role", "name", "which", "copies", "shape", "look"] := ⟨_, _, ⟨kk3, kb3, kc3, kl3⟩, ok_kindI FC3 TK, PySem.W.mg_of X G ka3, BC3⟩
  have dML : MkD P w K mg base "Locker" C4 ["name", "kinds"] := ⟨_, _, ⟨kk4, kb4, kc4, kl4⟩, ok_lockerI FC4 TL, PySem.W.mg_of X G ka4, BC4⟩
  have dRN : Dn P w K mg base (CXf P w) 4 "read_name" ["word"] (spReadName K CE0) := D12.dn fun f fd F => ok_readName F XN dIN
  have dRD : Dn P w K mg base (CXf P w) 1 "read_digit" ["word", "most"] (spReadDigit K CE0) := D13.dn fun f fd F => ok_readDigit F Z_len XN I_DIGIT_ZERO
  have dRK : Dn P w K mg base (CXf P w) 5 "read_kind" ["line"] (spReadKind K C3 CE0) := D14.dn fun f fd F => ok_readKind F Z_len XN I_BLANK T_ROLES T_WORDS_OF_ROLES I_SIGN I_SAME I_MOST_SAME I_MOST_COPIES T_SHAPES dCut dAm dRN dRD dCo dMK
  have dHT : Dn P w K mg base CX0 1 "has_twice" ["things"] (spTwice K) := D18.dn fun f fd F => ok_twice F Z_any Z_enumerate
  have dMF : Dn P w K mg base CX0 1 "may_follow" ["before", "kind"] (spFollow C3) := D16.dn fun f fd F => ok_follow F TK I_SIGN
  have dOr : Dn P w K mg base CX0 2 "are_in_order" ["kinds"] (spKinds C3 orderI) := D15.dn fun f fd F => ok_order F TK Z_len Z_all Z_enumerate I_SIGN I_MOST_SIGNS dMF
  have dDi : Dn P w K mg base CX0 2 "are_different" ["kinds"] (spKinds C3 differI) := D17.dn fun f fd F => ok_differ F TK I_SIGN dHT
  have dRL : Dn P w K mg base (CXf P w) 6 "read_locker" ["text"] (spReadLocker K C4 C3 CE0) := D11.dn fun f fd F => ok_readLocker F XN dWL dNB dRK dOr dDi dML
  have dRC : Dn P w K mg base (CXf P w) 1 "read_count" ["numbers", "place", "most"] (spCount K CE1) := D21.dn fun f fd F => ok_count F Z_len XS
  have dRH : Dn P w K mg base (CXf P w) 2 "read_hoists" ["numbers"] (spHoists K CE1) := D20.dn fun f fd F => ok_hoists F Z_len XS I_MOST_HOISTS I_MOST_FLAGS dRC
  have dMe : Dn P w K mg base CX0 1 "means_a_sign" ["kind", "above"] (spMeans C3) := D24.dn fun f fd F => ok_means F TK I_SIGN I_SAME
  have dMR : Dn P w K mg base CX0 2 "means_a_row" ["kinds", "hoist"] (spRowMeans K C3) := D23.dn fun f fd F => ok_rowMeans F Z_len Z_all Z_enumerate dMe
  have dOO : Dn P w K mg base CX0 3 "is_out_of" ["locker", "hoists"] (spOut C4 C3) := D22.dn fun f fd F => ok_out F TK TL Z_all Z_enumerate dMR
  have dRS : Dn P w K mg base (CXf P w) 4 "read_showing" ["locker", "numbers"] (spShow K C4 C3 CE1) := D19.dn fun f fd F => ok_show F XS dRH dOO
  have dCl : Dn P w K mg base CX0 1 "classes_of" ["light"] (spClasses) := D0.dn fun f fd F => ok_classes F Z_range I_COLOURS
  have dBh : Dn P w K mg base CX0 1 "cell_behind" ["cell"] (spBeh) := D1.dn fun f fd F => ok_beh F I_ROW
  have dCS : Dn P w K mg base CX0 2 "cells_seen" ["look", "classes", "side"] (spCells K) := D2.dn fun f fd F => ok_cells F Z_range I_BEHIND I_CELLS dBh
  have dSO : Dn P w K mg base CX0 3 "sighting_of" ["kind", "classes", "side"] (spSight K ⟨C0, C1, C2⟩ C3) := D29.dn fun f fd F => ok_sight F TK dMS dCS
  have dGO : Dn P w K mg base CX0 4 "glimpse_of" ["locker", "hoist", "classes", "side"] (spGlimpse K ⟨C0, C1, C2⟩ C4 C3) := D32.dn fun f fd F => ok_glimpse F TL dMG dSO
  have dPS : Dn P w K mg base CX0 5 "plate_seen" ["locker", "hoists", "classes", "side"] (spSeen K ⟨C0, C1, C2⟩ C4 C3) := D31.dn fun f fd F => ok_seen F dMP dGO
  have dSg : Dn P w K mg base CX0 1 "signs_of" ["places"] (spSigns K) := D28.dn fun f fd F => ok_signs F S_SEEN_SIGNS
  have dCL : Dn P w K mg base CX0 2 "cells_lines" ["cells"] (spLinesC K) := D27.dn fun f fd F => ok_linesC F Z_range I_CELLS I_ROW dSg
  have dHL : Dn P w K mg base CX0 1 "hoist_line" ["glimpse"] (spHoistL ⟨C0, C1, C2⟩) := D26.dn fun f fd F => ok_hoistL F TC T_HOIST_LINES
  have dPT : Dn P w K mg base CX0 3 "plate_text" ["plate"] (spText ⟨C0, C1, C2⟩) := D25.dn fun f fd F => ok_text F TC T_SIDES T_SEEN_SHAPES dSg dHL dCL dSp
  exact ok_draw (fun_mk (st := sDraw) l30 c30 k30) XN XS Z_len I_MOST_BYTES I_BEHIND dRL dRS dPT dPS dCl
end HD
section
set_option Elab.async false
set_option linter.all false
set_option maxRecDepth 100000
namespace OH
open PySem PySem.Calls PySem.W PyProof.Rows
/-- the top's run over a heap that lies as a tree -/
def runT (tab : String → Option Builtin) (P : Program) (W : World) (m : Nat) (an : Option Value) : Nat → SharedT → Thread → Option SharedT
  | 0, _, _ => none
  | k + 1, x, y => match through y with
    | true => some x
    | false => match stepOk m an y with
      | false => none
      | true => match stepT (denote tab) P W x y with
        | some z => runT tab P W m an k z.1 z.2
        | none => none
theorem runT_of {tab : String → Option Builtin} {P : Program} {W : World} {m : Nat} {an : Option Value} : ∀ (k : Nat) (x z : SharedT) (y : Thread), runT tab P W m an k x y = some z → topRun tab P W m an k x.abs y = some z.abs := by
  intro k
  induction k with
  | zero => intro x z y h; cases h
  | succ k ih =>
    intro x z y h
    unfold runT at h
    unfold topRun
    cases e1 : through y with
    | true =>
      rw [e1] at h
      cases h
      rfl
    | false =>
      rw [e1] at h
      cases e2 : stepOk m an y with
      | false => rw [e2] at h; cases h
      | true =>
        rw [e2] at h
        dsimp only at h ⊢
        cases e3 : stepT (denote tab) P W x y with
        | none => rw [e3] at h; cases h
        | some v =>
          rw [e3] at h
          rw [stepT_spec (s' := v.1) (t' := v.2) e3]
          exact ih _ _ _ h
/-- a list's things as a tree -/
def treeOf (l : List Obj) : BT := (l.foldl (fun (x : BT × Nat) o => (x.1.ins x.2 o, x.2 + 1)) (.nil, 0)).1
noncomputable def startT (W : World) (O : OsState) : SharedT := ⟨treeOf (boot_heap W.params).objs.toList, (boot_heap W.params).objs.toList.length, (boot_heap W.params).life, Array.mk [], boot_drawn, boot_toks, O⟩
noncomputable def startS (W : World) (O : OsState) : Shared := ⟨boot_heap W.params, Array.mk [], boot_drawn, boot_toks, O⟩
theorem startT_abs (W : World) (O : OsState) : (startT W O).abs = startS W O := by
  kernel_rfl
/-- what the head must see behind the top -/
noncomputable def keptAt (P : Program) (W : World) (x : Shared) : Bool := staticsOk (importedModules P.main.body) (boot_heap W.params) x.heap && namesBound P x.heap && gensDone x && laidKept (boot_heap W.params) x.heap
noncomputable def looksAt (P Q : Program) (lo : List Str) (Xt : Shared → Bool) {α : Type} (Yf : Shared → α) (W : World) (x : Shared) :=
  (keptAt P W x, openSeen Q lo (importedModules P.main.body) Xt true x, Yf x)
theorem from_boot {P : Program} {W : World} {N m : Nat} {an : Option Value} {O : OsState} {z : Shared}
    (size : ((boot_heap W.params).isNs mainGlobals, (boot_heap W.params).objs.size, (boot_heap W.params).nsMap mainGlobals "__annotations__") = (true, m, an))
    (run : topRun treeTable P W m an N (startS W O) (topStub P) = some z) (kept : keptAt P W z = true) : topFrom treeTable P W N (startS W O) = some z := by
  have s1 : (boot_heap W.params).isNs mainGlobals = true := congrArg Prod.fst size
  have s2 : (boot_heap W.params).objs.size = m := congrArg (fun x => x.2.1) size
  have s3 : (boot_heap W.params).nsMap mainGlobals "__annotations__" = an := congrArg (fun x => x.2.2) size
  subst s2
  subst s3
  have g : ((startS W O).heap.isNs mainGlobals && (startS W O).gens.size == 0) = true := by
    show ((boot_heap W.params).isNs mainGlobals && true) = true
    rw [s1]
    rfl
  unfold topFrom
  rw [g]
  show (topRun treeTable P W (boot_heap W.params).objs.size ((boot_heap W.params).nsMap mainGlobals "__annotations__") N (startS W O) (topStub P)).bind _ = some z
  rw [run]
  show (match keptAt P W z with | true => some z | false => none) = some z
  rw [kept]
theorem left_of {P Q : Program} {lo : List Str} {Xt : Shared → Bool} {α : Type} {Yf : Shared → α} {Ya : World → α} {N : Nat} {m : Nat} {an : Option Value} {M : Nat}
    (e : opening P = plainProg P.main.scope.names) (hN : Nat.ble 600 N = true) (f : ∀ s, fenceModules? P s = some s)
    (size : ∀ W : World, ((boot_heap W.params).isNs mainGlobals, (boot_heap W.params).objs.size, (boot_heap W.params).nsMap mainGlobals "__annotations__") = (true, m, an))
    (le : Nat.ble M N = true)
    (fin : ∀ (W : World) (O : OsState), (runT treeTable P W m an M (startT W O) (topStub P)).map (fun s => looksAt P Q lo Xt Yf W s.abs) = some (true, openGood Q lo, Ya W)) : LeftO P Q lo Xt Yf Ya N := by
  intro W
  obtain ⟨⟨h, gs, d, k, O⟩, o1, o2⟩ := Option.map_eq_some_iff.mp (boot_open e hN f W)
  cases o2
  obtain ⟨z, r1, r2⟩ := Option.map_eq_some_iff.mp (fin W O)
  have r3 := runT_of _ _ _ _ r1
  rw [startT_abs] at r3
  have r4 := topRun_mono (N - M) _ _ _ _ r3
  have hM : M + (N - M) = N := Nat.add_sub_cancel' (Nat.le_of_ble_eq_true le)
  rw [hM] at r4
  have c1 : keptAt P W z.abs = true := congrArg Prod.fst r2
  have c2 : (openSeen Q lo (importedModules P.main.body) Xt true z.abs, Yf z.abs) = (openGood Q lo, Ya W) := congrArg Prod.snd r2
  have t : topFrom treeTable P W N ⟨boot_heap W.params, Array.mk [], boot_drawn, boot_toks, O⟩ = some z.abs := from_boot (size W) r4 c1
  unfold openEnds
  rw [o1]
  show Option.map _ (topFrom treeTable P W N ⟨boot_heap W.params, Array.mk [], boot_drawn, boot_toks, O⟩) = _
  rw [t]
  exact congrArg some c2
lay_quick OH.runT
theorem boot_size (W : World) : ((boot_heap W.params).isNs mainGlobals, (boot_heap W.params).objs.size, (boot_heap W.params).nsMap mainGlobals "__annotations__") = (true, 11, some (.ref 6)) := by
  kernel_rfl
/-- .. by the quick twins of what is run -/
theorem left_fast {P Q : Program} {lo : List Str} {Xt : Shared → Bool} {α : Type} {Yf : Shared → α} {Ya : World → α} {N : Nat}
    (e : opening P = plainProg P.main.scope.names) (hN : Nat.ble 600 N = true) (f : ∀ s, fenceModules? P s = some s)
    (fin : ∀ (W : World) (O : OsState), (PySem.W.Fast.tw1264388230241321415 PySem.W.Fast.tw14364793385576792824 P W 11 (some (.ref 6)) N (startT W O) (topStub P)).map (fun s => looksAt P Q lo Xt Yf W s.abs) = some (true, openGood Q lo, Ya W)) : LeftO P Q lo Xt Yf Ya N :=
  left_of e hN f boot_size (Nat.ble_eq_true_of_le (Nat.le_refl N)) fun W O => by
    rw [PySem.W.Fast.te1264388230241321415, PySem.W.Fast.te14364793385576792824]
    exact fin W O
end OH
end
section
set_option Elab.async false
set_option linter.all false
set_option maxRecDepth 100000
set_option maxHeartbeats 2000000
namespace HD
open PySem PySem.Spec PyProof.Rows L2
@[reducible] def kf (n q : Str) (st : Stmt) (m c : Value) : Obj := ⟨.type "function", none, .func (PySem.W.fnOf n q (defArgs st) (defBody st) (defScope st) .none .none .none m none c .none), #[]⟩
@[reducible] def ke (P : Params) (x : Str) (t : Nat) (v : Value) : DictEntry := ⟨PyData.keyHash P x, .str x t, v⟩
noncomputable def kK (P : Params) : PySem.W.Frag :=
  (nat_lit 3, ⟨(.type "dict"), none, (.dict #[ke P "__name__" 165 (.str "halfseendesk.plates" 699), ke P "__doc__" 166 .none, ke P "__package__" 167 .none, ke P "__loader__" 168 (.builtin "__main__.__loader__#opaque"), ke P "__spec__" 169 .none, ke P "__annotations__" 170 (.ref 6), ke P "__builtins__" 171 (.ref 4), ke P "__file__" 173 (.str "/claim/cut.py" 172), ke P "__cached__" 174 .none, ke P "SHAPES" 192 (.ref 15), ke P "BEHIND" 194 (.int 1 193), ke P "COLOURS" 196 (.int 16 195), ke P "CELLS" 198 (.int 16 197), ke P "ROW" 200 (.int 4 199), ke P "classes_of" 206 (.ref 20), ke P "cell_behind" 213 (.ref 27), ke P "cells_seen" 219 (.ref 32), ke P "MOST_BYTES" 223 (.int 65536 222), ke P "LINE_END" 225 (.int 10 224), ke P "BLANK" 227 (.int 32 226), ke P "COLOUR_SIGNS" 229 (.str "0123456789abcdef" 228), ke P "NAME_SIGNS" 231 (.str "ABCDEFGHIJKLMNOPQRSTUVWXYZ0123456789" 230), ke P "LONGEST_NAME" 233 (.int 8 232), ke P "spelled" 239 (.ref 37), ke P "cut" 249 (.ref 44), ke P "whole_lines" 258 (.ref 51), ke P "place_among" 268 (.ref 58), ke P "places_in" 274 (.ref 63), ke P "read_colours" 281 (.ref 70), ke P "is_name" 288 (.ref 77), ke P "name_behind" 297 (.ref 84), ke P "SIGN" 301 (.int 0 300), ke P "SAME" 303 (.int 1 302), ke P "ROLES" 307 (.ref 85), ke P "WORDS_OF_ROLES" 311 (.ref 86), ke P "MOST_COPIES" 313 (.int 8 312), ke P "MOST_SAME" 315 (.int 4 314), ke P "MOST_SIGNS" 317 (.int 48 316), ke P "DIGIT_ZERO" 319 (.int 48 318), ke P "NoLocker" 339 (.ref 96), ke P "Kind" 378 (.ref 116), ke P "Locker" 409 (.ref 137), ke P "read_locker" 415 (.ref 146), ke P "read_name" 422 (.ref 153), ke P "read_digit" 430 (.ref 160), ke P "read_kind" 444 (.ref 167), ke P "are_in_order" 450 (.ref 172), ke P "may_follow" 458 (.ref 179), ke P "are_different" 464 (.ref 184), ke P "has_twice" 470 (.ref 189), ke P "MOST_HOISTS" 474 (.int 4 473), ke P "MOST_FLAGS" 476 (.int 8 475), ke P "NoShowing" 496 (.ref 199), ke P "read_showing" 505 (.ref 209), ke P "read_hoists" 516 (.ref 216), ke P "read_count" 525 (.ref 223), ke P "is_out_of" 531 (.ref 228), ke P "means_a_row" 537 (.ref 233), ke P "means_a_sign" 545 (.ref 240), ke P "SIDES" 551 (.ref 241), ke P "HOIST_LINES" 556 (.ref 242), ke P "SEEN_SHAPES" 561 (.ref 243), ke P "SEEN_SIGNS" 563 (.str "0123456789abcdef?" 562), ke P "Sighting" 594 (.ref 260), ke P "Glimpse" 627 (.ref 281), ke P "Plate" 660 (.ref 302), ke P "plate_text" 666 (.ref 311), ke P "hoist_line" 675 (.ref 318), ke P "cells_lines" 681 (.ref 323), ke P "signs_of" 687 (.ref 328), ke P "sighting_of" 698 (.ref 335), ke P "draw" 713 (.ref 342), ke P "plate_seen" 719 (.ref 347), ke P "glimpse_of" 725 (.ref 352)] 74), #[]⟩) ::
  (nat_lit 15, ⟨(.type "tuple"), none, (.seq #[(.str "square" 189), (.str "tails" 190), (.str "long" 191)] 0), #[]⟩) ::
  (nat_lit 19, ⟨(.type "code"), none, (.fields #[(.str "classes_of" 201), (.str "classes_of" 202), (.str "/claim/cut.py" 203), (.int 7 0), (.int 1 0), (.int 0 0), (.int 0 0), (.int 3 0), (.ref 16), (.bool true), (.int 181 0), (.ref 17), .none, .none, .none, (.ref 18), (.int 204 0), (.int 7 0), (.str "/claim/cut.py" 205)]), #[]⟩) ::
  (nat_lit 20, (kf "classes_of" "classes_of" (top 6) (.str "halfseendesk.looks" 187) (.ref 19))) ::
  (nat_lit 26, ⟨(.type "code"), none, (.fields #[(.str "cell_behind" 207), (.str "cell_behind" 208), (.str "/claim/cut.py" 209), (.int 9 0), (.int 1 0), (.int 0 0), (.int 0 0), (.int 3 0), (.ref 21), (.bool true), (.int 181 0), (.ref 22), .none, (.ref 23), (.ref 24), (.ref 25), (.int 211 0), (.int 9 0), (.str "/claim/cut.py" 212)]), #[]⟩) ::
  (nat_lit 27, (kf "cell_behind" "cell_behind" (top 7) (.str "halfseendesk.looks" 187) (.ref 26))) ::
  (nat_lit 31, ⟨(.type "code"), none, (.fields #[(.str "cells_seen" 214), (.str "cells_seen" 215), (.str "/claim/cut.py" 216), (.int 11 0), (.int 3 0), (.int 0 0), (.int 0 0), (.int 3 0), (.ref 28), (.bool true), (.int 181 0), (.ref 29), .none, .none, .none, (.ref 30), (.int 217 0), (.int 11 0), (.str "/claim/cut.py" 218)]), #[]⟩) ::
  (nat_lit 32, (kf "cells_seen" "cells_seen" (top 8) (.str "halfseendesk.looks" 187) (.ref 31))) ::
  (nat_lit 36, ⟨(.type "code"), none, (.fields #[(.str "spelled" 234), (.str "spelled" 235), (.str "/claim/cut.py" 236), (.int 22 0), (.int 1 0), (.int 0 0), (.int 0 0), (.int 3 0), (.ref 33), (.bool true), (.int 181 0), (.ref 34), .none, .none, .none, (.ref 35), (.int 237 0), (.int 22 0), (.str "/claim/cut.py" 238)]), #[]⟩) ::
  (nat_lit 37, (kf "spelled" "spelled" (top 16) (.str "halfseendesk.texts" 220) (.ref 36))) ::
  (nat_lit 43, ⟨(.type "code"), none, (.fields #[(.str "cut" 240), (.str "cut" 241), (.str "/claim/cut.py" 242), (.int 24 0), (.int 2 0), (.int 0 0), (.int 0 0), (.int 3 0), (.ref 38), (.bool true), (.int 181 0), (.ref 39), .none, (.ref 40), (.ref 41), (.ref 42), (.int 247 0), (.int 24 0), (.str "/claim/cut.py" 248)]), #[]⟩) ::
  (nat_lit 44, (kf "cut" "cut" (top 17) (.str "halfseendesk.texts" 220) (.ref 43))) ::
  (nat_lit 50, ⟨(.type "code"), none, (.fields #[(.str "whole_lines" 250), (.str "whole_lines" 251), (.str "/claim/cut.py" 252), (.int 32 0), (.int 1 0), (.int 0 0), (.int 0 0), (.int 3 0), (.ref 45), (.bool true), (.int 181 0), (.ref 46), .none, (.ref 47), (.ref 48), (.ref 49), (.int 256 0), (.int 32 0), (.str "/claim/cut.py" 257)]), #[]⟩) ::
  (nat_lit 51, (kf "whole_lines" "whole_lines" (top 18) (.str "halfseendesk.texts" 220) (.ref 50))) ::
  (nat_lit 57, ⟨(.type "code"), none, (.fields #[(.str "place_among" 259), (.str "place_among" 260), (.str "/claim/cut.py" 261), (.int 36 0), (.int 2 0), (.int 0 0), (.int 0 0), (.int 3 0), (.ref 52), (.bool true), (.int 181 0), (.ref 53), .none, (.ref 54), (.ref 55), (.ref 56), (.int 266 0), (.int 36 0), (.str "/claim/cut.py" 267)]), #[]⟩) ::
  (nat_lit 58, (kf "place_among" "place_among" (top 19) (.str "halfseendesk.texts" 220) (.ref 57))) ::
  (nat_lit 62, ⟨(.type "code"), none, (.fields #[(.str "places_in" 269), (.str "places_in" 270), (.str "/claim/cut.py" 271), (.int 41 0), (.int 2 0), (.int 0 0), (.int 0 0), (.int 3 0), (.ref 59), (.bool true), (.int 181 0), (.ref 60), .none, .none, .none, (.ref 61), (.int 272 0), (.int 41 0), (.str "/claim/cut.py" 273)]), #[]⟩) ::
  (nat_lit 63, (kf "places_in" "places_in" (top 20) (.str "halfseendesk.texts" 220) (.ref 62))) ::
  (nat_lit 69, ⟨(.type "code"), none, (.fields #[(.str "read_colours" 275), (.str "read_colours" 276), (.str "/claim/cut.py" 277), (.int 46 0), (.int 1 0), (.int 0 0), (.int 0 0), (.int 3 0), (.ref 64), (.bool true), (.int 181 0), (.ref 65), .none, (.ref 66), (.ref 67), (.ref 68), (.int 279 0), (.int 46 0), (.str "/claim/cut.py" 280)]), #[]⟩) ::
  (nat_lit 70, (kf "read_colours" "read_colours" (top 21) (.str "halfseendesk.texts" 220) (.ref 69))) ::
  (nat_lit 76, ⟨(.type "code"), none, (.fields #[(.str "is_name" 282), (.str "is_name" 283), (.str "/claim/cut.py" 284), (.int 50 0), (.int 1 0), (.int 0 0), (.int 0 0), (.int 3 0), (.ref 71), (.bool true), (.int 181 0), (.ref 72), .none, (.ref 73), (.ref 74), (.ref 75), (.int 286 0), (.int 50 0), (.str "/claim/cut.py" 287)]), #[]⟩) ::
  (nat_lit 77, (kf "is_name" "is_name" (top 22) (.str "halfseendesk.texts" 220) (.ref 76))) ::
  (nat_lit 83, ⟨(.type "code"), none, (.fields #[(.str "name_behind" 289), (.str "name_behind" 290), (.str "/claim/cut.py" 291), (.int 52 0), (.int 2 0), (.int 0 0), (.int 0 0), (.int 3 0), (.ref 78), (.bool true), (.int 181 0), (.ref 79), .none, (.ref 80), (.ref 81), (.ref 82), (.int 295 0), (.int 52 0), (.str "/claim/cut.py" 296)]), #[]⟩) ::
  (nat_lit 84, (kf "name_behind" "name_behind" (top 23) (.str "halfseendesk.texts" 220) (.ref 83))) ::
  (nat_lit 85, ⟨(.type "tuple"), none, (.seq #[(.str "sign" 304), (.str "same" 305), (.str "answer" 306)] 0), #[]⟩) ::
  (nat_lit 86, ⟨(.type "tuple"), none, (.seq #[(.int 5 308), (.int 5 309), (.int 4 310)] 0), #[]⟩) ::
  (nat_lit 95, ⟨(.type "dict"), none, (.dict #[ke P "__module__" 327 (.str "halfseendesk.lockers" 298), ke P "__firstlineno__" 331 (.int 66 330), ke P "__static_attributes__" 332 (.ref 94), ke P "__weakref__" 334 (.ref 97), ke P "__doc__" 335 .none] 3), #[]⟩) ::
  (nat_lit 96, ⟨(.type "type"), none, (.cls ⟨"NoLocker", [(.type "Exception")], [(.ref 96), (.type "Exception"), (.type "BaseException"), (.type "object")], 95, "NoLocker", true, [], [], false, none, false⟩), #[(some (.ref 87)), none, (some (.str "NoLocker" 320)), (some (.str "NoLocker" 328)), (some (.builtin "Exception.__new__")), (some (.bool true))]⟩) ::
  (nat_lit 112, ⟨(.type "code"), none, (.fields #[(.str "__init__" 352), (.str "Kind.__init__" 353), (.str "/claim/cut.py" 354), (.int 70 0), (.int 7 0), (.int 0 0), (.int 0 0), (.int 3 0), (.ref 107), (.bool true), (.int 181 0), (.ref 108), .none, (.ref 109), (.ref 110), (.ref 111), (.int 362 0), (.int 70 0), (.str "/claim/cut.py" 363)]), #[]⟩) ::
  (nat_lit 113, (kf "__init__" "Kind.__init__" (inClass (top 34) 0) (.str "halfseendesk.lockers" 298) (.ref 112))) ::
  (nat_lit 115, ⟨(.type "dict"), none, (.dict #[ke P "__module__" 347 (.str "halfseendesk.lockers" 298), ke P "__firstlineno__" 351 (.int 68 350), ke P "__init__" 364 (.ref 113), ke P "__static_attributes__" 371 (.ref 114), ke P "__dict__" 373 (.ref 117), ke P "__weakref__" 375 (.ref 118), ke P "__doc__" 376 .none] 4), #[]⟩) ::
  (nat_lit 116, ⟨(.type "type"), none, (.cls ⟨"Kind", [(.type "object")], [(.ref 116), (.type "object")], 115, "Kind", true, [], [], false, none, false⟩), #[none, none, (some (.str "Kind" 340)), (some (.str "Kind" 348)), (some (.builtin "object.__new__")), (some (.bool true))]⟩) ::
  (nat_lit 133, ⟨(.type "code"), none, (.fields #[(.str "__init__" 391), (.str "Locker.__init__" 392), (.str "/claim/cut.py" 393), (.int 79 0), (.int 3 0), (.int 0 0), (.int 0 0), (.int 3 0), (.ref 128), (.bool true), (.int 181 0), (.ref 129), .none, (.ref 130), (.ref 131), (.ref 132), (.int 397 0), (.int 79 0), (.str "/claim/cut.py" 398)]), #[]⟩) ::
  (nat_lit 134, (kf "__init__" "Locker.__init__" (inClass (top 35) 0) (.str "halfseendesk.lockers" 298) (.ref 133))) ::
  (nat_lit 136, ⟨(.type "dict"), none, (.dict #[ke P "__module__" 386 (.str "halfseendesk.lockers" 298), ke P "__firstlineno__" 390 (.int 77 389), ke P "__init__" 399 (.ref 134), ke P "__static_attributes__" 402 (.ref 135), ke P "__dict__" 404 (.ref 138), ke P "__weakref__" 406 (.ref 139), ke P "__doc__" 407 .none] 4), #[]⟩) ::
  (nat_lit 137, ⟨(.type "type"), none, (.cls ⟨"Locker", [(.type "object")], [(.ref 137), (.type "object")], 136, "Locker", true, [], [], false, none, false⟩), #[none, none, (some (.str "Locker" 379)), (some (.str "Locker" 387)), (some (.builtin "object.__new__")), (some (.bool true))]⟩) ::
  (nat_lit 145, ⟨(.type "code"), none, (.fields #[(.str "read_locker" 410), (.str "read_locker" 411), (.str "/claim/cut.py" 412), (.int 82 0), (.int 1 0), (.int 0 0), (.int 0 0), (.int 3 0), (.ref 142), (.bool true), (.int 181 0), (.ref 143), .none, .none, .none, (.ref 144), (.int 413 0), (.int 82 0), (.str "/claim/cut.py" 414)]), #[]⟩) ::
  (nat_lit 146, (kf "read_locker" "read_locker" (top 36) (.str "halfseendesk.lockers" 298) (.ref 145))) ::
  (nat_lit 152, ⟨(.type "code"), none, (.fields #[(.str "read_name" 416), (.str "read_name" 417), (.str "/claim/cut.py" 418), (.int 91 0), (.int 1 0), (.int 0 0), (.int 0 0), (.int 3 0), (.ref 147), (.bool true), (.int 181 0), (.ref 148), .none, (.ref 149), (.ref 150), (.ref 151), (.int 420 0), (.int 91 0), (.str "/claim/cut.py" 421)]), #[]⟩) ::
  (nat_lit 153, (kf "read_name" "read_name" (top 37) (.str "halfseendesk.lockers" 298) (.ref 152))) ::
  (nat_lit 159, ⟨(.type "code"), none, (.fields #[(.str "read_digit" 423), (.str "read_digit" 424), (.str "/claim/cut.py" 425), (.int 95 0), (.int 2 0), (.int 0 0), (.int 0 0), (.int 3 0), (.ref 154), (.bool true), (.int 181 0), (.ref 155), .none, (.ref 156), (.ref 157), (.ref 158), (.int 428 0), (.int 95 0), (.str "/claim/cut.py" 429)]), #[]⟩) ::
  (nat_lit 160, (kf "read_digit" "read_digit" (top 38) (.str "halfseendesk.lockers" 298) (.ref 159))) ::
  (nat_lit 166, ⟨(.type "code"), none, (.fields #[(.str "read_kind" 431), (.str "read_kind" 432), (.str "/claim/cut.py" 433), (.int 99 0), (.int 1 0), (.int 0 0), (.int 0 0), (.int 3 0), (.ref 161), (.bool true), (.int 181 0), (.ref 162), .none, (.ref 163), (.ref 164), (.ref 165), (.int 442 0), (.int 99 0), (.str "/claim/cut.py" 443)]), #[]⟩) ::
  (nat_lit 167, (kf "read_kind" "read_kind" (top 39) (.str "halfseendesk.lockers" 298) (.ref 166))) ::
  (nat_lit 171, ⟨(.type "code"), none, (.fields #[(.str "are_in_order" 445), (.str "are_in_order" 446), (.str "/claim/cut.py" 447), (.int 112 0), (.int 1 0), (.int 0 0), (.int 0 0), (.int 3 0), (.ref 168), (.bool true), (.int 181 0), (.ref 169), .none, .none, .none, (.ref 170), (.int 448 0), (.int 112 0), (.str "/claim/cut.py" 449)]), #[]⟩) ::
  (nat_lit 172, (kf "are_in_order" "are_in_order" (top 40) (.str "halfseendesk.lockers" 298) (.ref 171))) ::
  (nat_lit 178, ⟨(.type "code"), none, (.fields #[(.str "may_follow" 451), (.str "may_follow" 452), (.str "/claim/cut.py" 453), (.int 117 0), (.int 2 0), (.int 0 0), (.int 0 0), (.int 3 0), (.ref 173), (.bool true), (.int 181 0), (.ref 174), .none, (.ref 175), (.ref 176), (.ref 177), (.int 456 0), (.int 117 0), (.str "/claim/cut.py" 457)]), #[]⟩) ::
  (nat_lit 179, (kf "may_follow" "may_follow" (top 41) (.str "halfseendesk.lockers" 298) (.ref 178))) ::
  (nat_lit 183, ⟨(.type "code"), none, (.fields #[(.str "are_different" 459), (.str "are_different" 460), (.str "/claim/cut.py" 461), (.int 121 0), (.int 1 0), (.int 0 0), (.int 0 0), (.int 3 0), (.ref 180), (.bool true), (.int 181 0), (.ref 181), .none, .none, .none, (.ref 182), (.int 462 0), (.int 121 0), (.str "/claim/cut.py" 463)]), #[]⟩) ::
  (nat_lit 184, (kf "are_different" "are_different" (top 42) (.str "halfseendesk.lockers" 298) (.ref 183))) ::
  (nat_lit 188, ⟨(.type "code"), none, (.fields #[(.str "has_twice" 465), (.str "has_twice" 466), (.str "/claim/cut.py" 467), (.int 125 0), (.int 1 0), (.int 0 0), (.int 0 0), (.int 3 0), (.ref 185), (.bool true), (.int 181 0), (.ref 186), .none, .none, .none, (.ref 187), (.int 468 0), (.int 125 0), (.str "/claim/cut.py" 469)]), #[]⟩) ::
  (nat_lit 189, (kf "has_twice" "has_twice" (top 43) (.str "halfseendesk.lockers" 298) (.ref 188))) ::
  (nat_lit 198, ⟨(.type "dict"), none, (.dict #[ke P "__module__" 484 (.str "halfseendesk.showings" 471), ke P "__firstlineno__" 488 (.int 130 487), ke P "__static_attributes__" 489 (.ref 197), ke P "__weakref__" 491 (.ref 200), ke P "__doc__" 492 .none] 3), #[]⟩) ::
  (nat_lit 199, ⟨(.type "type"), none, (.cls ⟨"NoShowing", [(.type "Exception")], [(.ref 199), (.type "Exception"), (.type "BaseException"), (.type "object")], 198, "NoShowing", true, [], [], false, none, false⟩), #[(some (.ref 190)), none, (some (.str "NoShowing" 477)), (some (.str "NoShowing" 485)), (some (.builtin "Exception.__new__")), (some (.bool true))]⟩) ::
  (nat_lit 208, ⟨(.type "code"), none, (.fields #[(.str "read_showing" 497), (.str "read_showing" 498), (.str "/claim/cut.py" 499), (.int 132 0), (.int 2 0), (.int 0 0), (.int 0 0), (.int 3 0), (.ref 203), (.bool true), (.int 181 0), (.ref 204), .none, (.ref 205), (.ref 206), (.ref 207), (.int 503 0), (.int 132 0), (.str "/claim/cut.py" 504)]), #[]⟩) ::
  (nat_lit 209, (kf "read_showing" "read_showing" (top 48) (.str "halfseendesk.showings" 471) (.ref 208))) ::
  (nat_lit 215, ⟨(.type "code"), none, (.fields #[(.str "read_hoists" 506), (.str "read_hoists" 507), (.str "/claim/cut.py" 508), (.int 137 0), (.int 1 0), (.int 0 0), (.int 0 0), (.int 3 0), (.ref 210), (.bool true), (.int 181 0), (.ref 211), .none, (.ref 212), (.ref 213), (.ref 214), (.int 514 0), (.int 137 0), (.str "/claim/cut.py" 515)]), #[]⟩) ::
  (nat_lit 216, (kf "read_hoists" "read_hoists" (top 49) (.str "halfseendesk.showings" 471) (.ref 215))) ::
  (nat_lit 222, ⟨(.type "code"), none, (.fields #[(.str "read_count" 517), (.str "read_count" 518), (.str "/claim/cut.py" 519), (.int 148 0), (.int 3 0), (.int 0 0), (.int 0 0), (.int 3 0), (.ref 217), (.bool true), (.int 181 0), (.ref 218), .none, (.ref 219), (.ref 220), (.ref 221), (.int 523 0), (.int 148 0), (.str "/claim/cut.py" 524)]), #[]⟩) ::
  (nat_lit 223, (kf "read_count" "read_count" (top 50) (.str "halfseendesk.showings" 471) (.ref 222))) ::
  (nat_lit 227, ⟨(.type "code"), none, (.fields #[(.str "is_out_of" 526), (.str "is_out_of" 527), (.str "/claim/cut.py" 528), (.int 152 0), (.int 2 0), (.int 0 0), (.int 0 0), (.int 3 0), (.ref 224), (.bool true), (.int 181 0), (.ref 225), .none, .none, .none, (.ref 226), (.int 529 0), (.int 152 0), (.str "/claim/cut.py" 530)]), #[]⟩) ::
  (nat_lit 228, (kf "is_out_of" "is_out_of" (top 51) (.str "halfseendesk.showings" 471) (.ref 227))) ::
  (nat_lit 232, ⟨(.type "code"), none, (.fields #[(.str "means_a_row" 532), (.str "means_a_row" 533), (.str "/claim/cut.py" 534), (.int 159 0), (.int 2 0), (.int 0 0), (.int 0 0), (.int 3 0), (.ref 229), (.bool true), (.int 181 0), (.ref 230), .none, .none, .none, (.ref 231), (.int 535 0), (.int 159 0), (.str "/claim/cut.py" 536)]), #[]⟩) ::
  (nat_lit 233, (kf "means_a_row" "means_a_row" (top 52) (.str "halfseendesk.showings" 471) (.ref 232))) ::
  (nat_lit 239, ⟨(.type "code"), none, (.fields #[(.str "means_a_sign" 538), (.str "means_a_sign" 539), (.str "/claim/cut.py" 540), (.int 163 0), (.int 2 0), (.int 0 0), (.int 0 0), (.int 3 0), (.ref 234), (.bool true), (.int 181 0), (.ref 235), .none, (.ref 236), (.ref 237), (.ref 238), (.int 543 0), (.int 163 0), (.str "/claim/cut.py" 544)]), #[]⟩) ::
  (nat_lit 240, (kf "means_a_sign" "means_a_sign" (top 53) (.str "halfseendesk.showings" 471) (.ref 239))) ::
  (nat_lit 241, ⟨(.type "tuple"), none, (.seq #[(.str "front" 548), (.str "behind" 549), (.str "unknown" 550)] 0), #[]⟩) ::
  (nat_lit 242, ⟨(.type "tuple"), none, (.seq #[(.str "hoist" 552), (.str "hoist above" 553), (.str "hoist below" 554), (.str "hoist above below" 555)] 0), #[]⟩) ::
  (nat_lit 243, ⟨(.type "tuple"), none, (.seq #[(.str "square" 557), (.str "tails" 558), (.str "long" 559), (.str "shape?" 560)] 0), #[]⟩) ::
  (nat_lit 256, ⟨(.type "code"), none, (.fields #[(.str "__init__" 576), (.str "Sighting.__init__" 577), (.str "/claim/cut.py" 578), (.int 174 0), (.int 3 0), (.int 0 0), (.int 0 0), (.int 3 0), (.ref 251), (.bool true), (.int 181 0), (.ref 252), .none, (.ref 253), (.ref 254), (.ref 255), (.int 582 0), (.int 174 0), (.str "/claim/cut.py" 583)]), #[]⟩) ::
  (nat_lit 257, (kf "__init__" "Sighting.__init__" (inClass (top 59) 0) (.str "halfseendesk.platetexts" 546) (.ref 256))) ::
  (nat_lit 259, ⟨(.type "dict"), none, (.dict #[ke P "__module__" 571 (.str "halfseendesk.platetexts" 546), ke P "__firstlineno__" 575 (.int 172 574), ke P "__init__" 584 (.ref 257), ke P "__static_attributes__" 587 (.ref 258), ke P "__dict__" 589 (.ref 261), ke P "__weakref__" 591 (.ref 262), ke P "__doc__" 592 .none] 4), #[]⟩) ::
  (nat_lit 260, ⟨(.type "type"), none, (.cls ⟨"Sighting", [(.type "object")], [(.ref 260), (.type "object")], 259, "Sighting", true, [], [], false, none, false⟩), #[none, none, (some (.str "Sighting" 564)), (some (.str "Sighting" 572)), (some (.builtin "object.__new__")), (some (.bool true))]⟩) ::
  (nat_lit 277, ⟨(.type "code"), none, (.fields #[(.str "__init__" 607), (.str "Glimpse.__init__" 608), (.str "/claim/cut.py" 609), (.int 179 0), (.int 4 0), (.int 0 0), (.int 0 0), (.int 3 0), (.ref 272), (.bool true), (.int 181 0), (.ref 273), .none, (.ref 274), (.ref 275), (.ref 276), (.int 614 0), (.int 179 0), (.str "/claim/cut.py" 615)]), #[]⟩) ::
  (nat_lit 278, (kf "__init__" "Glimpse.__init__" (inClass (top 60) 0) (.str "halfseendesk.platetexts" 546) (.ref 277))) ::
  (nat_lit 280, ⟨(.type "dict"), none, (.dict #[ke P "__module__" 602 (.str "halfseendesk.platetexts" 546), ke P "__firstlineno__" 606 (.int 177 605), ke P "__init__" 616 (.ref 278), ke P "__static_attributes__" 620 (.ref 279), ke P "__dict__" 622 (.ref 282), ke P "__weakref__" 624 (.ref 283), ke P "__doc__" 625 .none] 4), #[]⟩) ::
  (nat_lit 281, ⟨(.type "type"), none, (.cls ⟨"Glimpse", [(.type "object")], [(.ref 281), (.type "object")], 280, "Glimpse", true, [], [], false, none, false⟩), #[none, none, (some (.str "Glimpse" 595)), (some (.str "Glimpse" 603)), (some (.builtin "object.__new__")), (some (.bool true))]⟩) ::
  (nat_lit 298, ⟨(.type "code"), none, (.fields #[(.str "__init__" 640), (.str "Plate.__init__" 641), (.str "/claim/cut.py" 642), (.int 185 0), (.int 4 0), (.int 0 0), (.int 0 0), (.int 3 0), (.ref 293), (.bool true), (.int 181 0), (.ref 294), .none, (.ref 295), (.ref 296), (.ref 297), (.int 647 0), (.int 185 0), (.str "/claim/cut.py" 648)]), #[]⟩) ::
  (nat_lit 299, (kf "__init__" "Plate.__init__" (inClass (top 61) 0) (.str "halfseendesk.platetexts" 546) (.ref 298))) ::
  (nat_lit 301, ⟨(.type "dict"), none, (.dict #[ke P "__module__" 635 (.str "halfseendesk.platetexts" 546), ke P "__firstlineno__" 639 (.int 183 638), ke P "__init__" 649 (.ref 299), ke P "__static_attributes__" 653 (.ref 300), ke P "__dict__" 655 (.ref 303), ke P "__weakref__" 657 (.ref 304), ke P "__doc__" 658 .none] 4), #[]⟩) ::
  (nat_lit 302, ⟨(.type "type"), none, (.cls ⟨"Plate", [(.type "object")], [(.ref 302), (.type "object")], 301, "Plate", true, [], [], false, none, false⟩), #[none, none, (some (.str "Plate" 628)), (some (.str "Plate" 636)), (some (.builtin "object.__new__")), (some (.bool true))]⟩) ::
  (nat_lit 310, ⟨(.type "code"), none, (.fields #[(.str "plate_text" 661), (.str "plate_text" 662), (.str "/claim/cut.py" 663), (.int 189 0), (.int 1 0), (.int 0 0), (.int 0 0), (.int 3 0), (.ref 307), (.bool true), (.int 181 0), (.ref 308), .none, .none, .none, (.ref 309), (.int 664 0), (.int 189 0), (.str "/claim/cut.py" 665)]), #[]⟩) ::
  (nat_lit 311, (kf "plate_text" "plate_text" (top 62) (.str "halfseendesk.platetexts" 546) (.ref 310))) ::
  (nat_lit 317, ⟨(.type "code"), none, (.fields #[(.str "hoist_line" 667), (.str "hoist_line" 668), (.str "/claim/cut.py" 669), (.int 197 0), (.int 1 0), (.int 0 0), (.int 0 0), (.int 3 0), (.ref 312), (.bool true), (.int 181 0), (.ref 313), .none, (.ref 314), (.ref 315), (.ref 316), (.int 673 0), (.int 197 0), (.str "/claim/cut.py" 674)]), #[]⟩) ::
  (nat_lit 318, (kf "hoist_line" "hoist_line" (top 63) (.str "halfseendesk.platetexts" 546) (.ref 317))) ::
  (nat_lit 322, ⟨(.type "code"), none, (.fields #[(.str "cells_lines" 676), (.str "cells_lines" 677), (.str "/claim/cut.py" 678), (.int 201 0), (.int 1 0), (.int 0 0), (.int 0 0), (.int 3 0), (.ref 319), (.bool true), (.int 181 0), (.ref 320), .none, .none, .none, (.ref 321), (.int 679 0), (.int 201 0), (.str "/claim/cut.py" 680)]), #[]⟩) ::
  (nat_lit 323, (kf "cells_lines" "cells_lines" (top 64) (.str "halfseendesk.platetexts" 546) (.ref 322))) ::
  (nat_lit 327, ⟨(.type "code"), none, (.fields #[(.str "signs_of" 682), (.str "signs_of" 683), (.str "/claim/cut.py" 684), (.int 203 0), (.int 1 0), (.int 0 0), (.int 0 0), (.int 3 0), (.ref 324), (.bool true), (.int 181 0), (.ref 325), .none, .none, .none, (.ref 326), (.int 685 0), (.int 203 0), (.str "/claim/cut.py" 686)]), #[]⟩) ::
  (nat_lit 328, (kf "signs_of" "signs_of" (top 65) (.str "halfseendesk.platetexts" 546) (.ref 327))) ::
  (nat_lit 334, ⟨(.type "code"), none, (.fields #[(.str "sighting_of" 690), (.str "sighting_of" 691), (.str "/claim/cut.py" 692), (.int 206 0), (.int 3 0), (.int 0 0), (.int 0 0), (.int 3 0), (.ref 329), (.bool true), (.int 181 0), (.ref 330), .none, (.ref 331), (.ref 332), (.ref 333), (.int 696 0), (.int 206 0), (.str "/claim/cut.py" 697)]), #[]⟩) ::
  (nat_lit 335, (kf "sighting_of" "sighting_of" (top 67) (.str "halfseendesk.sights" 688) (.ref 334))) ::
  (nat_lit 341, ⟨(.type "code"), none, (.fields #[(.str "draw" 701), (.str "draw" 702), (.str "/claim/cut.py" 703), (.int 209 0), (.int 4 0), (.int 0 0), (.int 0 0), (.int 3 0), (.ref 336), (.bool true), (.int 181 0), (.ref 337), .none, (.ref 338), (.ref 339), (.ref 340), (.int 711 0), (.int 209 0), (.str "/claim/cut.py" 712)]), #[]⟩) ::
  (nat_lit 342, (kf "draw" "draw" (top 69) (.str "halfseendesk.plates" 699) (.ref 341))) ::
  (nat_lit 346, ⟨(.type "code"), none, (.fields #[(.str "plate_seen" 714), (.str "plate_seen" 715), (.str "/claim/cut.py" 716), (.int 224 0), (.int 4 0), (.int 0 0), (.int 0 0), (.int 3 0), (.ref 343), (.bool true), (.int 181 0), (.ref 344), .none, .none, .none, (.ref 345), (.int 717 0), (.int 224 0), (.str "/claim/cut.py" 718)]), #[]⟩) ::
  (nat_lit 347, (kf "plate_seen" "plate_seen" (top 70) (.str "halfseendesk.plates" 699) (.ref 346))) ::
  (nat_lit 351, ⟨(.type "code"), none, (.fields #[(.str "glimpse_of" 720), (.str "glimpse_of" 721), (.str "/claim/cut.py" 722), (.int 226 0), (.int 4 0), (.int 0 0), (.int 0 0), (.int 3 0), (.ref 348), (.bool true), (.int 181 0), (.ref 349), .none, .none, .none, (.ref 350), (.int 723 0), (.int 226 0), (.str "/claim/cut.py" 724)]), #[]⟩) ::
  (nat_lit 352, (kf "glimpse_of" "glimpse_of" (top 71) (.str "halfseendesk.plates" 699) (.ref 351))) :: []
def kA : List Addr := [3, 15, 19, 20, 26, 27, 31, 32, 36, 37, 43, 44, 50, 51, 57, 58, 62, 63, 69, 70, 76, 77, 83, 84, 85, 86, 95, 96, 112, 113, 115, 116, 133, 134, 136, 137, 145, 146, 152, 153, 159, 160, 166, 167, 171, 172, 178, 179, 183, 184, 188, 189, 198, 199, 208, 209, 215, 216, 222, 223, 227, 228, 232, 233, 239, 240, 241, 242, 243, 256, 257, 259, 260, 277, 278, 280, 281, 298, 299, 301, 302, 310, 311, 317, 318, 322, 323, 327, 328, 334, 335, 341, 342, 346, 347, 351, 352]
noncomputable def kQ : Program := PySem.W.view PySem.Challenge.pw_halfseendesk_s02_draw [1, 2, 3, 4, 5, 6, 7, 8, 10, 11, 12, 13, 14, 15, 16, 17, 18, 19, 20, 21, 22, 23, 25, 26, 27, 28, 29, 30, 31, 32, 33, 34, 35, 36, 37, 38, 39, 40, 41, 42, 43, 45, 46, 47, 48, 49, 50, 51, 52, 53, 55, 56, 57, 58, 59, 60, 61, 62, 63, 64, 65, 67, 69, 70, 71]
-- steps 2801 gens 0 loose [] lv 0
theorem kE (P : Params) : kA = (kK P).map (·.1) := by kernel_rfl
theorem hfin (w : World) (os : OsState) : (PySem.W.Fast.tw1264388230241321415 PySem.W.Fast.tw14364793385576792824 PySem.Challenge.pw_halfseendesk_s02_draw w 11 (some (.ref 6)) 5702 (OH.startT w os) (PySem.W.topStub PySem.Challenge.pw_halfseendesk_s02_draw)).map (fun s => OH.looksAt PySem.Challenge.pw_halfseendesk_s02_draw kQ [] (fun s => PySem.W.xlAt kQ [] s && PySem.W.recOk [] s) (PySem.W.Hook.obs (PySem.W.kHook kK kA kE)) w s.abs) = some (true, PySem.W.openGood kQ [], PySem.W.Hook.val (PySem.W.kHook kK kA kE) w) := by
  kernel_rfl
theorem hleft : PySem.W.LeftO PySem.Challenge.pw_halfseendesk_s02_draw kQ [] (fun s => PySem.W.xlAt kQ [] s && PySem.W.recOk [] s) (PySem.W.Hook.obs (PySem.W.kHook kK kA kE)) (PySem.W.Hook.val (PySem.W.kHook kK kA kE)) 5702 :=
  OH.left_fast (by kernel_rfl) (by rfl) (fun s => by kernel_rfl) hfin
end HD
end
open PySem PySem.W PyProof.Rows
set_option maxRecDepth 100000 in
set_option maxHeartbeats 0 in
theorem PySem.Challenge.cw_halfseendesk_s02_draw_holds : PySem.Challenge.rw_halfseendesk_s02_draw.Holds := by
  refine PySem.W.holds_os (q := HD.kQ) (loose := []) (Xt := fun s => PySem.W.xlAt HD.kQ [] s && PySem.W.recOk [] s) (XP := PySem.W.XL HD.kQ []) (Yf := PySem.W.Hook.obs (PySem.W.kHook HD.kK HD.kA HD.kE)) (Ya := PySem.W.Hook.val (PySem.W.kHook HD.kK HD.kA HD.kE)) (YP := PySem.W.Hook.says (PySem.W.kHook HD.kK HD.kA HD.kE)) (N := 5702) HD.hleft (PySem.W.Hook.of (PySem.W.kHook HD.kK HD.kA HD.kE)) (PySem.W.Hook.keeps (PySem.W.kHook HD.kK HD.kA HD.kE)) (fun s e => PySem.W.xl_of s (Bool.and_eq_true_iff.mp e).1) PySem.W.XL.keeps (by rfl) (by rfl) (by rfl) (fun s e => PySem.W.recFacts_of (Bool.and_eq_true_iff.mp e).2) PySem.W.os_shapes (by decide +kernel) (by decide +kernel) ⟨rfl, rfl, rfl, rfl, rfl, by decide +kernel⟩ ⟨[.int 0, .int 0, .list [], .list []], by decide +kernel, by decide +kernel⟩ ?hc
  k_fillS
  refine L2.walk_specK (r := PySem.Challenge.rw_halfseendesk_s02_draw) (k := 7) (CX := L2.CX0) (ps := ["light", "side", "t", "s"]) (sp := HD.spDraw) (by decide +kernel) rfl rfl ⟨rfl, by decide, by decide⟩ (fun w h Y => PySem.W.kIn_of Y) ?F ?S (fun _ _ _ _ z => z)
  case F =>
    intro w mg fa h Y KX G hmg
    refine' HD.all_mk KX G hmg ?a0 ?l0 ?c0 ?k0 ?a1 ?l1 ?c1 ?k1 ?a2 ?l2 ?c2 ?k2 ?a3 ?l3 ?c3 ?k3 ?a4 ?l4 ?c4 ?k4 ?a5 ?l5 ?c5 ?k5 ?a6 ?l6 ?c6 ?k6 ?a7 ?l7 ?c7 ?k7 ?a8 ?l8 ?c8 ?k8 ?a9 ?l9 ?c9 ?k9 ?a10 ?l10 ?c10 ?k10 ?a11 ?l11 ?c11 ?k11 ?a12 ?l12 ?c12 ?k12 ?a13 ?l13 ?c13 ?k13 ?a14 ?l14 ?c14 ?k14 ?a15 ?l15 ?c15 ?k15 ?a16 ?l16 ?c16 ?k16 ?a17 ?l17 ?c17 ?k17 ?a18 ?l18 ?c18 ?k18 ?a19 ?l19 ?c19 ?k19 ?a20 ?l20 ?c20 ?k20 ?a21 ?l21 ?c21 ?k21 ?a22 ?l22 ?c22 ?k22 ?a23 ?l23 ?c23 ?k23 ?a24 ?l24 ?c24 ?k24 ?a25 ?l25 ?c25 ?k25 ?a26 ?l26 ?c26 ?k26 ?a27 ?l27 ?c27 ?k27 ?a28 ?l28 ?c28 ?k28 ?a29 ?l29 ?c29 ?k29 ?a30 ?l30 ?c30 ?k30 ?a31 ?l31 ?c31 ?k31 ?a32 ?l32 ?c32 ?k32 ?ka0 ?kb0 ?kc0 ?kd0 ?ke0 ?kf0 ?kg0 ?kh0 ?ki0 ?kj0 ?kk0 ?kl0 ?kn0_0 ?kn0_1 ?ka1 ?kb1 ?kc1 ?kd1 ?ke1 ?kf1 ?kg1 ?kh1 ?ki1 ?kj1 ?kk1 ?kl1 ?kn1_0 ?kn1_1 ?kn1_2 ?ka2 ?kb2 ?kc2 ?kd2 ?ke2 ?kf2 ?kg2 ?kh2 ?ki2 ?kj2 ?kk2 ?kl2 ?kn2_0 ?kn2_1 ?kn2_2 ?ka3 ?kb3 ?kc3 ?kd3 ?ke3 ?kf3 ?kg3 ?kh3 ?ki3 ?kj3 ?kk3 ?kl3 ?kn3_0 ?kn3_1 ?kn3_2 ?kn3_3 ?kn3_4 ?kn3_5 ?ka4 ?kb4 ?kc4 ?kd4 ?ke4 ?kf4 ?kg4 ?kh4 ?ki4 ?kj4 ?kk4 ?kl4 ?kn4_0 ?kn4_1 ?xa0 ?xb0 ?xb20 ?xb30 ?xc0 ?xd0 ?xe0 ?xf0 ?xk0 ?xa1 ?xb1 ?xb21 ?xb31 ?xc1 ?xd1 ?xe1 ?xf1 ?xk1 ?ci0 ?ci1 ?ci2 ?ci3 ?ci4 ?ci5 ?ci6 ?ci7 ?ci8 ?ci9 ?ci10 ?ci11 ?ci12 ?ci13 ?ci14 ?ci15 ?cs0 ?cs1 ?cs2 ?ct0 ?cu0 ?ct1 ?cu1 ?ct2 ?cu2 ?ct3 ?cu3 ?ct4 ?cu4 ?ct5 ?cu5 ?z0 ?z1 ?z2 ?z3 ?z4 ?z5
    (case a0 => k_is)
    (case l0 => k_is)
    (case c0 => k_is)
    (case k0 => k_is)
    (case a1 => k_is)
    (case l1 => k_is)
    (case c1 => k_is)
    (case k1 => k_is)
    (case a2 => k_is)
    (case l2 => k_is)
    (case c2 => k_is)
    (case k2 => k_is)
    (case a3 => k_is)
    (case l3 => k_is)
    (case c3 => k_is)
    (case k3 => k_is)
    (case a4 => k_is)
    (case l4 => k_is)
    (case c4 => k_is)
    (case k4 => k_is)
    (case a5 => k_is)
    (case l5 => k_is)
    (case c5 => k_is)
    (case k5 => k_is)
    (case a6 => k_is)
    (case l6 => k_is)
    (case c6 => k_is)
    (case k6 => k_is)
    (case a7 => k_is)
    (case l7 => k_is)
    (case c7 => k_is)
    (case k7 => k_is)
    (case a8 => k_is)
    (case l8 => k_is)
    (case c8 => k_is)
    (case k8 => k_is)
    (case a9 => k_is)
    (case l9 => k_is)
    (case c9 => k_is)
    (case k9 => k_is)
    (case a10 => k_is)
    (case l10 => k_is)
    (case c10 => k_is)
    (case k10 => k_is)
    (case a11 => k_is)
    (case l11 => k_is)
    (case c11 => k_is)
    (case k11 => k_is)
    (case a12 => k_is)
    (case l12 => k_is)
    (case c12 => k_is)
    (case k12 => k_is)
    (case a13 => k_is)
    (case l13 => k_is)
    (case c13 => k_is)
    (case k13 => k_is)
    (case a14 => k_is)
    (case l14 => k_is)
    (case c14 => k_is)
    (case k14 => k_is)
    (case a15 => k_is)
    (case l15 => k_is)
    (case c15 => k_is)
    (case k15 => k_is)
    (case a16 => k_is)
    (case l16 => k_is)
    (case c16 => k_is)
    (case k16 => k_is)
    (case a17 => k_is)
    (case l17 => k_is)
    (case c17 => k_is)
    (case k17 => k_is)
    (case a18 => k_is)
    (case l18 => k_is)
    (case c18 => k_is)
    (case k18 => k_is)
    (case a19 => k_is)
    (case l19 => k_is)
    (case c19 => k_is)
    (case k19 => k_is)
    (case a20 => k_is)
    (case l20 => k_is)
    (case c20 => k_is)
    (case k20 => k_is)
    (case a21 => k_is)
    (case l21 => k_is)
    (case c21 => k_is)
    (case k21 => k_is)
    (case a22 => k_is)
    (case l22 => k_is)
    (case c22 => k_is)
    (case k22 => k_is)
    (case a23 => k_is)
    (case l23 => k_is)
    (case c23 => k_is)
    (case k23 => k_is)
    (case a24 => k_is)
    (case l24 => k_is)
    (case c24 => k_is)
    (case k24 => k_is)
    (case a25 => k_is)
    (case l25 => k_is)
    (case c25 => k_is)
    (case k25 => k_is)
    (case a26 => k_is)
    (case l26 => k_is)
    (case c26 => k_is)
    (case k26 => k_is)
    (case a27 => k_is)
    (case l27 => k_is)
    (case c27 => k_is)
    (case k27 => k_is)
    (case a28 => k_is)
    (case l28 => k_is)
    (case c28 => k_is)
    (case k28 => k_is)
    (case a29 => k_is)
    (case l29 => k_is)
    (case c29 => k_is)
    (case k29 => k_is)
    (case a30 => k_is)
    (case l30 => k_is)
    (case c30 => k_is)
    (case k30 => k_is)
    (case a31 => k_is)
    (case l31 => k_is)
    (case c31 => k_is)
    (case k31 => k_is)
    (case a32 => k_is)
    (case l32 => k_is)
    (case c32 => k_is)
    (case k32 => k_is)
    (case ka0 => k_is)
    (case kb0 => k_is)
    (case kc0 => k_is)
    (case kd0 => k_is)
    (case ke0 => k_is)
    (case kf0 => k_is)
    (case kg0 => k_is)
    (case kh0 => k_is)
    (case ki0 => k_is)
    (case kj0 => k_is)
    (case kk0 => k_is)
    (case kl0 => k_is)
    (case kn0_0 => k_is)
    (case kn0_1 => k_is)
    (case ka1 => k_is)
    (case kb1 => k_is)
    (case kc1 => k_is)
    (case kd1 => k_is)
    (case ke1 => k_is)
    (case kf1 => k_is)
    (case kg1 => k_is)
    (case kh1 => k_is)
    (case ki1 => k_is)
    (case kj1 => k_is)
    (case kk1 => k_is)
    (case kl1 => k_is)
    (case kn1_0 => k_is)
    (case kn1_1 => k_is)
    (case kn1_2 => k_is)
    (case ka2 => k_is)
    (case kb2 => k_is)
    (case kc2 => k_is)
    (case kd2 => k_is)
    (case ke2 => k_is)
    (case kf2 => k_is)
    (case kg2 => k_is)
    (case kh2 => k_is)
    (case ki2 => k_is)
    (case kj2 => k_is)
    (case kk2 => k_is)
    (case kl2 => k_is)
    (case kn2_0 => k_is)
    (case kn2_1 => k_is)
    (case kn2_2 => k_is)
    (case ka3 => k_is)
    (case kb3 => k_is)
    (case kc3 => k_is)
    (case kd3 => k_is)
    (case ke3 => k_is)
    (case kf3 => k_is)
    (case kg3 => k_is)
    (case kh3 => k_is)
    (case ki3 => k_is)
    (case kj3 => k_is)
    (case kk3 => k_is)
    (case kl3 => k_is)
    (case kn3_0 => k_is)
    (case kn3_1 => k_is)
    (case kn3_2 => k_is)
    (case kn3_3 => k_is)
    (case kn3_4 => k_is)
    (case kn3_5 => k_is)
    (case ka4 => k_is)
    (case kb4 => k_is)
    (case kc4 => k_is)
    (case kd4 => k_is)
    (case ke4 => k_is)
    (case kf4 => k_is)
    (case kg4 => k_is)
    (case kh4 => k_is)
    (case ki4 => k_is)
    (case kj4 => k_is)
    (case kk4 => k_is)
    (case kl4 => k_is)
    (case kn4_0 => k_is)
    (case kn4_1 => k_is)
    (case xa0 => k_is)
    (case xb0 => k_is)
    (case xb20 => k_is)
    (case xb30 => simp)
    (case xc0 => k_is)
    (case xd0 => k_is)
    (case xe0 => k_is)
    (case xf0 => k_is)
    (case xk0 => k_is)
    (case xa1 => k_is)
    (case xb1 => k_is)
    (case xb21 => k_is)
    (case xb31 => simp)
    (case xc1 => k_is)
    (case xd1 => k_is)
    (case xe1 => k_is)
    (case xf1 => k_is)
    (case xk1 => k_is)
    (case ci0 => k_is)
    (case ci1 => k_is)
    (case ci2 => k_is)
    (case ci3 => k_is)
    (case ci4 => k_is)
    (case ci5 => k_is)
    (case ci6 => k_is)
    (case ci7 => k_is)
    (case ci8 => k_is)
    (case ci9 => k_is)
    (case ci10 => k_is)
    (case ci11 => k_is)
    (case ci12 => k_is)
    (case ci13 => k_is)
    (case ci14 => k_is)
    (case ci15 => k_is)
    (case cs0 => k_is)
    (case cs1 => k_is)
    (case cs2 => k_is)
    (case ct0 => k_is)
    (case cu0 => k_is)
    (case ct1 => k_is)
    (case cu1 => k_is)
    (case ct2 => k_is)
    (case cu2 => k_is)
    (case ct3 => k_is)
    (case cu3 => k_is)
    (case ct4 => k_is)
    (case cu4 => k_is)
    (case ct5 => k_is)
    (case cu5 => k_is)
    (case z0 => k_is)
    (case z1 => k_is)
    (case z2 => k_is)
    (case z3 => k_is)
    (case z4 => k_is)
    (case z5 => k_is)
  case S =>
    intro K H xs a hO hwi hask hx
    obtain ⟨li, si, t, s, u⟩ := a
    cases hx with
    | cons h1 h2 =>
      cases h2 with
      | cons h3 h4 =>
        cases h4 with
        | cons h5 h6 =>
          cases h6 with
          | cons h7 h8 =>
            cases h8
            cases h1
            cases h3
            cases h5 with
            | lst hs ha =>
              cases h7 with
              | lst hs2 ha2 =>
                have e := L2.ints_dw t _ ha
                subst e
                have e := L2.ints_dw s _ ha2
                subst e
                have q : (Codec.inInt 0 18446744073709551615 li && (Codec.inInt 0 18446744073709551615 si && ((Codec.inLen 0 66000 t && t.all (Codec.inInt 0 255)) && ((Codec.inLen 0 64 s && s.all (Codec.inInt 0 255)) && true)))) = true := hwi
                simp only [Bool.and_eq_true] at q
                obtain ⟨q1, q2, ⟨q3, q4⟩, ⟨q5, q6⟩, _⟩ := q
                have t8 : JM.In8 t := HD.in8_req q4
                have s8 : JM.In8 s := HD.in8_req q6
                obtain ⟨ln, rfl⟩ : ∃ n : Nat, li = (n : Int) := ⟨Int.toNat li, (Int.toNat_of_nonneg (Codec.inInt_iff.mp q1).1).symm⟩
                obtain ⟨sn, rfl⟩ : ∃ n : Nat, si = (n : Int) := ⟨Int.toNat si, (Int.toNat_of_nonneg (Codec.inInt_iff.mp q2).1).symm⟩
                obtain ⟨ns, rfl⟩ : ∃ ns : List Nat, s = HD.nv ns := ⟨s.map Int.toNat, (HD.nv_toNat s8).symm⟩
                refine ⟨_, sn, _, _, t, ns, rfl, hs, (Codec.inNat_iff.mp q3).2, hs2, fun H' p hp => ?_⟩
                show L2.Dw K H' _ (.list ((PyWqbada.draw (ln : Int) (sn : Int) t (HD.nv ns)).map .int))
                rw [← HD.draw_due t8]
                exact .lst (L2.SqL.of hp) (L2.dw_ints _)
#print axioms PySem.Challenge.cw_halfseendesk_s02_draw_holds
end
