import PyProof.Rows.All
import Wide.All
import OpenK.AllK
import Wide.FinOn
import PyProof.EqAt
import PyProof.EqKinds
import PyProof.TupleCall
import KE.BitLaws
import KE.IntBitsLaws
import Open.SpecLaws
import KE.OsHead
import KE.OsGo
import PySem.Challenge.RW_compasses_s06_root
set_option Elab.async false
set_option linter.all false
set_option maxRecDepth 100000
/-! THE HAND LAYER, for ints, bools, texts, own classes, lists, tuples, dicts, comprehensions, walks over dicts, enumerate, zip, reversed, texts, calls, loops. Paste it whole ahead of your own text; what your proof does not reach may be deleted. -/
namespace L2
open PySem PySem.Spec PyProof.Rows

/-- a key: an int or a str -/
abbrev Key := Sum Int Str
def keyIs : Key → Value → Bool
  | .inl k, v => Value.isInt k v
  | .inr x, v => Value.isStrOf x v
def keyH (w : World) : Key → Int
  | .inl k => hashInt k
  | .inr x => hashStr w x
theorem keyIs_shape : ∀ {k : Key} {v : Value}, keyIs k v = true → (∃ i t, k = Sum.inl i ∧ v = Value.int i t) ∨ (∃ x t, k = Sum.inr x ∧ v = Value.str x t)
  | .inl i, v, h => by
    obtain ⟨t, e⟩ := Value.isInt_shape (k := i) (v := v) h
    exact .inl ⟨i, t, rfl, e⟩
  | .inr x, v, h => by
    obtain ⟨t, e⟩ := Value.isStrOf_shape (x := x) (v := v) h
    exact .inr ⟨x, t, rfl, e⟩
theorem key_ll (a b : Int) : decide ((Sum.inl a : Key) = Sum.inl b) = (a == b) := by
  by_cases e : a = b
  · subst e; simp
  · have h : ¬ (Sum.inl a : Key) = Sum.inl b := fun q => e (Sum.inl.inj q)
    rw [decide_eq_false h]
    exact (beq_eq_false_iff_ne.mpr e).symm
theorem key_rr (a b : Str) : decide ((Sum.inr a : Key) = Sum.inr b) = decide (a = b) := by
  by_cases e : a = b
  · subst e; simp
  · have h : ¬ (Sum.inr a : Key) = Sum.inr b := fun q => e (Sum.inr.inj q)
    rw [decide_eq_false h, decide_eq_false e]
theorem key_lr (a : Int) (b : Str) : decide ((Sum.inl a : Key) = Sum.inr b) = false := decide_eq_false (fun q => nomatch q)
theorem key_rl (a : Str) (b : Int) : decide ((Sum.inr a : Key) = Sum.inl b) = false := decide_eq_false (fun q => nomatch q)

def mixKind (prog : Program) (w : World) : PySem.KeyKind prog w Key where
  is := keyIs
  hash := keyH w
  inj := fun v a b ha hb => by
    rcases keyIs_shape ha with ⟨i, t, rfl, rfl⟩ | ⟨x, t, rfl, rfl⟩
    · rcases keyIs_shape hb with ⟨j, u, rfl, e⟩ | ⟨y, u, rfl, e⟩
      · injection e with e1 _; rw [e1]
      · exact nomatch e
    · rcases keyIs_shape hb with ⟨j, u, rfl, e⟩ | ⟨y, u, rfl, e⟩
      · exact nomatch e
      · injection e with e1 _; rw [e1]
  byValue := fun k v h => by
    rcases keyIs_shape h with ⟨i, t, rfl, rfl⟩ | ⟨x, t, rfl, rfl⟩ <;> rfl
  pyHash := fun hv h => by
    rcases keyIs_shape hv with ⟨i, t, rfl, rfl⟩ | ⟨x, t, rfl, rfl⟩
    · exact wpAny_pyHash_int h
    · exact wpAny_pyHash_str h
  eqBool := fun hu hv h => by
    rcases keyIs_shape hu with ⟨i, t, rfl, rfl⟩ | ⟨x, t, rfl, rfl⟩
    · rcases keyIs_shape hv with ⟨j, u, rfl, rfl⟩ | ⟨y, u, rfl, rfl⟩
      · rw [key_ll] at h; exact wpAny_eqBool_int h
      · rw [key_lr] at h; exact SeqAt.EqAt.int_str i t y u _ _ _ _ h
    · rcases keyIs_shape hv with ⟨j, u, rfl, rfl⟩ | ⟨y, u, rfl, rfl⟩
      · rw [key_rl] at h; exact SeqAt.EqAt.str_int x t j u _ _ _ _ h
      · rw [key_rr] at h; exact wpAny_eqBool_str h
  «strs» := fun k x t v h => by
    rcases keyIs_shape h with ⟨i, u, rfl, e⟩ | ⟨y, u, rfl, e⟩
    · exact nomatch e
    · injection e with e1 _
      subst e1
      cases v <;> rfl

end L2

namespace L2
open PySem PySem.Spec PyProof.Rows

/-- a value, without the heap -/
inductive V where
  | non | bl (b : Bool) | int (i : Int) | str (x : Str) | byt (b : Array UInt8) | flt (b : UInt64) | ref (a : Addr) | ty (n : String)
  deriving DecidableEq

def RelV : V → Value → Prop
  | .non, u => u = Value.none
  | .bl b, u => u = Value.bool b
  | .int i, u => ∃ t, u = Value.int i t
  | .str x, u => ∃ t, u = Value.str x t
  | .byt b, u => ∃ t, u = Value.bytes b t
  | .flt b, u => ∃ t, u = Value.float b t
  | .ref a, u => u = Value.ref a
  | .ty n, u => u = Value.type n

abbrev Vals : List V → List Value → Prop := Paired RelV
theorem Vals.length {xs : List V} {us : List Value} (r : Vals xs us) : xs.length = us.length := Paired.length r
theorem Vals.get : ∀ {xs : List V} {us : List Value} {i : Nat} {x : V}, Vals xs us → xs[i]? = some x → ∃ u, us[i]? = some u ∧ RelV x u
  | _, _, _, _, .nil, e => by simp at e
  | _, _, 0, _, .cons r _, e => by simp at e; subst e; exact ⟨_, rfl, r⟩
  | _, _, i + 1, x, .cons _ t, e => by
    obtain ⟨u, h1, h2⟩ := Vals.get (i := i) (x := x) t (by simpa using e)
    exact ⟨u, by simpa using h1, h2⟩
theorem Vals.append : ∀ {xs ys : List V} {us ws : List Value}, Vals xs us → Vals ys ws → Vals (xs ++ ys) (us ++ ws)
  | _, _, _, _, .nil, s => s
  | _, _, _, _, .cons r t, s => .cons r (Vals.append t s)
theorem Vals.take : ∀ {xs : List V} {us : List Value} (n : Nat), Vals xs us → Vals (xs.take n) (us.take n)
  | _, _, 0, _ => .nil
  | _, _, _ + 1, .nil => .nil
  | _, _, n + 1, .cons r t => .cons r (Vals.take n t)
theorem Vals.drop : ∀ {xs : List V} {us : List Value} (n : Nat), Vals xs us → Vals (xs.drop n) (us.drop n)
  | _, _, 0, r => r
  | _, _, _ + 1, .nil => .nil
  | _, _, n + 1, .cons _ t => Vals.drop n t

def RelO : Option V → Option Value → Prop
  | some v, some u => RelV v u
  | none, none => True
  | _, _ => False
def KV {κ : Type} : List (κ × V) → List (κ × Value) → Prop := Paired fun (p : κ × V) (q : κ × Value) => p.1 = q.1 ∧ RelV p.2 q.2

/-- a key of a dict (00_mix): an int or a text -/
def kV : Key → V
  | .inl i => .int i
  | .inr x => .str x

/-- what stands at a tracked address -/
inductive HO where
  /-- a list -/
  | lst (xs : List V)
  /-- a tuple (never changes) -/
  | tup (xs : List V)
  /-- a dict whose keys are ints and texts; one whose keys are tuples of ints and texts (the empty one is both) -/
  | dK (kvs : List (Key × V)) | dT (kvs : List (List Key × V))
  /-- a set of ints: its members, its size -/
  | set (S : Int → Bool) (n : Nat)
  /-- an instance of the class at C, its dict at dx, its attributes -/
  | ins (C dx : Addr) (fs : List (Str × V))
  /-- the dict of the instance at x -/
  | own (x : Addr)
  /-- the dict of an exception -/
  | xd (fs : List (Str × V))
  /-- a bound method, f of x -/
  | met (f x : Addr)
  /-- a range object lo, lo + 1, .. below hi -/
  | rng (lo hi : Int)
  /-- a thing that is known to the object (the script; a dict while a loop walks it): read, never written while it is so -/
  | frz (o : Obj) (u : HO)
  /-- a code object's table -/
  | tbl (ps : Array Value)
  /-- any other thing, by what is true of its one object (a def of one's own: SetO a S n := HO.ext fun h => ..) -/
  | ext (φ : Heap → Prop)

abbrev Hp := Addr → Option HO
def upd (H : Hp) (a : Addr) (o : HO) : Hp := fun b => if b = a then some o else H b
theorem upd_same {H : Hp} {a : Addr} {o : HO} : upd H a o a = some o := by unfold upd; rw [if_pos rfl]
theorem upd_ne {H : Hp} {a b : Addr} {o : HO} (h : b ≠ a) : upd H a o b = H b := by unfold upd; rw [if_neg h]
theorem ne_of_none {H : Hp} {a b : Addr} {o : HO} (h : H a = some o) (h' : H b = none) : a ≠ b := by
  intro e; subst e; rw [h] at h'; cases h'

section
variable (P : Program) (w : World)
def ObjOk (H : Hp) (h : Heap) (a : Addr) : HO → Prop
  | .lst xs => xs.length ≤ sizeLine ∧ ∃ (its : List Value) (n : Nat), Vals xs its ∧ h.get? a = some { cls := .type "list", data := .seq its.toArray n }
  | .tup xs => xs.length ≤ sizeLine ∧ ∃ its : List Value, Vals xs its ∧ IsTup h a its.toArray
  | .dK kvs => kvs.length ≤ sizeLine ∧ (a == sysModules) = false ∧ ∃ vs, KV kvs vs ∧ h.DictOf (mixKind P w) a vs
  | .dT kvs => kvs.length ≤ sizeLine ∧ (a == sysModules) = false ∧ ∃ xs : List (List Key × Addr × Value),
      Paired (fun (p : List Key × V) (q : List Key × Addr × Value) => p.1 = q.1 ∧ H q.2.1 = some (.tup (p.1.map kV)) ∧ RelV p.2 q.2.2) kvs xs ∧
      ∃ o es ep, h.get? a = some o ∧ o.ExactDict ∧ o.data = .dict es ep ∧ es.toList = xs.map (entryOfKey (tupleKind (mixKind P w))) ∧ (xs.map (·.1)).Nodup
  | .set S n => h.SetOf (intKind P w) a S n
  | .ins C dx fs => H dx = some (.own a) ∧ fs.length ≤ 1000 ∧ dx ≠ a ∧ h.get? a = some (PySem.W.instObj C dx) ∧
      ∃ mA, h.Ns1 dx mA ∧ (∀ f, RelO (fs.lookup f) (mA f)) ∧ PySem.Within mA (fs.map (·.1))
  | .own _ => ∃ o, h.get? a = some o
  | .xd fs => ∃ mA, h.Ns1 a mA ∧ ∀ f, RelO (fs.lookup f) (mA f)
  | .rng lo hi => ∃ t u v, h.get? a = some { cls := .type "range", data := .fields #[.int lo t, .int hi u, .int 1 v] }
  | .frz o u => h.get? a = some o ∧ ObjOk H h a u
  | .tbl ps => h.get? a = some { cls := .none, data := .fields ps }
  | .met f x => h.get? a = some (PySem.W.methodObj (.ref f) (.ref x))
  | .ext φ => φ h ∧ (∃ o, h.get? a = some o) ∧ ∀ h1 h2 : Heap, φ h1 → (∀ o, h1.get? a = some o → h2.get? a = some o) → φ h2
/-- the abstract heap is held -/
def HOk (H : Hp) (h : Heap) : Prop := ∀ a o, H a = some o → ObjOk P w H h a o
end

section
variable {P : Program} {w : World} {H H' : Hp} {h h' : Heap} {a : Addr} {o : HO}
theorem ObjOk.lt (x : ObjOk P w H h a o) : a < h.objs.size := by
  cases o with
  | lst xs => obtain ⟨_, _, _, _, e⟩ := x; exact Heap.lt_size e
  | tup xs => obtain ⟨_, _, _, p⟩ := x; exact p.lt
  | dK kvs => obtain ⟨_, _, _, _, o, _, _, e, _⟩ := x; exact Heap.lt_size e
  | dT kvs => obtain ⟨_, _, _, _, o, _, _, e, _⟩ := x; exact Heap.lt_size e
  | set S n => obtain ⟨o, _, _, _, e, _⟩ := x; exact Heap.lt_size e
  | ins C dx fs => obtain ⟨_, _, _, e, _⟩ := x; exact Heap.lt_size e
  | own y => obtain ⟨_, e⟩ := x; exact Heap.lt_size e
  | xd fs => obtain ⟨_, ⟨_, _, _, e, _⟩, _⟩ := x; exact Heap.lt_size e
  | rng lo hi => obtain ⟨_, _, _, e⟩ := x; exact Heap.lt_size e
  | frz ob u => obtain ⟨e, _⟩ := x; exact Heap.lt_size e
  | tbl ps => exact Heap.lt_size (show h.get? a = some _ from x)
  | met f y => exact Heap.lt_size (show h.get? a = some _ from x)
  | ext φ => obtain ⟨_, ⟨_, e⟩, _⟩ := x; exact Heap.lt_size e
theorem Paired.mapP {α β : Type} {F G : α → β → Prop} : ∀ {l₁ : List α} {l₂ : List β}, Paired F l₁ l₂ → (∀ a b, F a b → G a b) → Paired G l₁ l₂
  | _, _, .nil, _ => .nil
  | _, _, .cons r t, f => .cons (f _ _ r) (Paired.mapP t f)
/-- what an object's description leans on: its own object, its own dict, the tuples -/
theorem ObjOk.stay (x : ObjOk P w H h a o) (k : ∀ b u, (b = a ∨ H b = some (.own a)) → h.get? b = some u → h'.get? b = some u)
    (ho : ∀ b, H b = some (.own a) → H' b = some (.own a)) (ht : ∀ b xs, H b = some (.tup xs) → H' b = some (.tup xs)) : ObjOk P w H' h' a o := by
  induction o with
  | lst xs => obtain ⟨z, its, n, r, e⟩ := x; exact ⟨z, its, n, r, k _ _ (.inl rfl) e⟩
  | tup xs => obtain ⟨z, its, r, ob, e, c⟩ := x; exact ⟨z, its, r, ob, k _ _ (.inl rfl) e, c⟩
  | dK kvs => obtain ⟨z, y, vs, r, ob, es, ep, e, c⟩ := x; exact ⟨z, y, vs, r, ob, es, ep, k _ _ (.inl rfl) e, c⟩
  | dT kvs =>
    obtain ⟨z, y, xs, r, ob, es, ep, e, c⟩ := x
    exact ⟨z, y, xs, Paired.mapP r fun p q z => ⟨z.1, ht _ _ z.2.1, z.2.2⟩, ob, es, ep, k _ _ (.inl rfl) e, c⟩
  | set S n => obtain ⟨ob, es, ep, t, e, c⟩ := x; exact ⟨ob, es, ep, t, k _ _ (.inl rfl) e, c⟩
  | ins C dx fs =>
    obtain ⟨d, z, ne, e, mA, ⟨od, es, ep, e2, c⟩, r⟩ := x
    exact ⟨ho _ d, z, ne, k _ _ (.inl rfl) e, mA, ⟨od, es, ep, k _ _ (.inr d) e2, c⟩, r⟩
  | own y => obtain ⟨ob, e⟩ := x; exact ⟨ob, k _ _ (.inl rfl) e⟩
  | xd fs => obtain ⟨mA, ⟨od, es, ep, e, c⟩, r⟩ := x; exact ⟨mA, ⟨od, es, ep, k _ _ (.inl rfl) e, c⟩, r⟩
  | rng lo hi => obtain ⟨t, u, v, e⟩ := x; exact ⟨t, u, v, k _ _ (.inl rfl) e⟩
  | frz ob u ih => obtain ⟨e, q⟩ := x; exact ⟨k _ _ (.inl rfl) e, ih q⟩
  | tbl ps =>
    have e : h.get? a = some { cls := .none, data := .fields ps } := x
    show h'.get? a = some { cls := .none, data := .fields ps }
    exact k a _ (.inl rfl) e
  | met f y =>
    have e : h.get? a = some (PySem.W.methodObj (.ref f) (.ref y)) := x
    show h'.get? a = some (PySem.W.methodObj (.ref f) (.ref y))
    exact k a _ (.inl rfl) e
  | ext φ => obtain ⟨p, ⟨o, e⟩, st⟩ := x; exact ⟨st _ _ p fun o q => k _ _ (.inl rfl) q, ⟨o, k _ _ (.inl rfl) e⟩, st⟩
theorem HOk.lt (x : HOk P w H h) (e : H a = some o) : a < h.objs.size := (x a o e).lt
theorem HOk.fresh (x : HOk P w H h) (e : h.objs.size ≤ a) : H a = none := by
  cases q : H a with
  | none => rfl
  | some u => exact absurd (Nat.lt_of_lt_of_le (x.lt q) e) (Nat.lt_irrefl _)
/-- every object of the heap is kept -/
theorem HOk.kept (x : HOk P w H h) (k : ∀ b u, h.get? b = some u → h'.get? b = some u) : HOk P w H h' := fun a o e =>
  (x a o e).stay (fun b u _ q => k b u q) (fun _ q => q) fun _ _ q => q
/-- a new object is laid and tracked -/
theorem HOk.laid (x : HOk P w H h) (k : ∀ b u, h.get? b = some u → h'.get? b = some u) (hp : h.objs.size ≤ a) (new : ObjOk P w (upd H a o) h' a o) : HOk P w (upd H a o) h' := fun b u e => by
  have hn := x.fresh hp
  by_cases hb : b = a
  · subst hb; rw [upd_same] at e; cases e; exact new
  · rw [upd_ne hb] at e
    exact (x b u e).stay (fun c v _ q => k c v q) (fun c q => by rw [upd_ne (ne_of_none q hn)]; exact q) fun c xs q => by rw [upd_ne (ne_of_none q hn)]; exact q
end

/-- what may be read as u: it is u, or a known u -/
def Rd (H : Hp) (a : Addr) (u : HO) : Prop := H a = some u ∨ ∃ o, H a = some (.frz o u)
theorem Rd.ok {P : Program} {w : World} {H : Hp} {h : Heap} {a : Addr} {u : HO} (r : Rd H a u) (x : HOk P w H h) : ObjOk P w H h a u := by
  rcases r with r | ⟨o, r⟩
  · exact x a u r
  · obtain ⟨_, q⟩ := x a _ r
    exact q
/-- what may be written -/
def Mut : Option HO → Prop
  | some (.lst _) => True
  | some (.dK _) => True
  | some (.dT _) => True
  | some (.set _ _) => True
  | some (.ins _ _ _) => True
  | some (.ext _) => True
  | _ => False
section
variable {P : Program} {w : World} {H : Hp} {h h' : Heap} {x e : Addr} {o' : HO}
/-- the object at e is changed: x itself, or the dict of the instance x -/
theorem HOk.write (ok : HOk P w H h) (mu : Mut (H x)) (he : e = x ∨ H e = some (.own x)) (k : ∀ b u, b ≠ e → h.get? b = some u → h'.get? b = some u) (heo : ∃ u, h'.get? e = some u)
    (new : ObjOk P w (upd H x o') h' x o') : HOk P w (upd H x o') h' := fun b u q => by
  have nown : ∀ c y, H c = some (.own y) → c ≠ x := fun c y r z => by subst z; rw [r] at mu; exact mu
  have ntup : ∀ c xs, H c = some (.tup xs) → c ≠ x := fun c xs r z => by subst z; rw [r] at mu; exact mu
  by_cases hb : b = x
  · subst hb; rw [upd_same] at q; cases q; exact new
  · rw [upd_ne hb] at q
    by_cases hbe : b = e
    · have q' : H b = some (.own x) := by
        rcases he with z | z
        · exact absurd (hbe.trans z) hb
        · rw [hbe]; exact z
      rw [q] at q'; cases q'
      obtain ⟨v, hv⟩ := heo
      exact ⟨v, by rw [hbe]; exact hv⟩
    · refine (ok b u q).stay (fun c v hc r => k c v ?_ r) (fun c r => by rw [upd_ne (nown c b r)]; exact r) fun c xs r => by rw [upd_ne (ntup c xs r)]; exact r
      rcases hc with rfl | hc
      · exact hbe
      · rintro rfl
        rcases he with z | z
        · exact nown c b hc z
        · rw [hc] at z; cases z; exact hb rfl
end

/-! ### kept unless tracked; of the frames at fs (the callers') the slots may change (an exception that passes writes there); of the records at ex (iterators) nothing is said -/
structure Un (fs ex : List Addr) (H H' : Hp) (h h' : Heap) : Prop where
  keep : ∀ b o, h.get? b = some o → H b = none → b ∉ fs → b ∉ ex → h'.get? b = some o
  slot : ∀ b o, h.get? b = some o → H b = none → b ∈ fs → b ∉ ex → ∃ sl, h'.get? b = some { o with slots := sl }
  free : ∀ b o, h.get? b = some o → H b = none → b ∉ ex → H' b = none
  there : ∀ b o, h.get? b = some o → b ∉ ex → ∃ o', h'.get? b = some o'
  tups : ∀ b xs, H b = some (.tup xs) → H' b = some (.tup xs)
  frzs : ∀ b o u, H b = some (.frz o u) → H' b = some (.frz o u)
  tbls : ∀ b ps, H b = some (.tbl ps) → ∃ more, H' b = some (.tbl (ps ++ more))
section
variable {fs fs' ex ex' : List Addr} {H H1 H2 : Hp} {h h1 h2 h' : Heap} {a x e : Addr} {o : HO}
theorem Un.any (u : Un fs ex H H1 h h1) {b : Addr} {ob : Obj} (q : h.get? b = some ob) (n : H b = none) (hx : b ∉ ex) : ∃ sl, h1.get? b = some { ob with slots := sl } := by
  by_cases hb : b ∈ fs
  · exact u.slot b ob q n hb hx
  · exact ⟨ob.slots, u.keep b ob q n hb hx⟩
theorem Un.kept (k : ∀ b u, h.get? b = some u → h'.get? b = some u) : Un fs ex H H h h' :=
  ⟨fun b ob q _ _ _ => k b ob q, fun b ob q _ _ _ => ⟨ob.slots, k b ob q⟩, fun _ _ _ n _ => n, fun b ob q _ => ⟨ob, k b ob q⟩, fun _ _ q => q, fun _ _ _ q => q, fun _ ps q => ⟨#[], by rw [q]; simp⟩⟩
theorem Un.refl : Un fs ex H H h h := Un.kept fun _ _ q => q
theorem Un.laid (k : ∀ b u, h.get? b = some u → h'.get? b = some u) (hp : h.objs.size ≤ a) (hn : H a = none) : Un fs ex H (upd H a o) h h' where
  keep := fun b u q _ _ _ => k b u q
  slot := fun b u q _ _ _ => ⟨u.slots, k b u q⟩
  free := fun b u q n _ => by rw [upd_ne (Nat.ne_of_lt (Nat.lt_of_lt_of_le (Heap.lt_size q) hp))]; exact n
  there := fun b u q _ => ⟨u, k b u q⟩
  tups := fun b xs q => by rw [upd_ne (ne_of_none q hn)]; exact q
  frzs := fun b u xs q => by rw [upd_ne (ne_of_none q hn)]; exact q
  tbls := fun b ps q => ⟨#[], by rw [upd_ne (ne_of_none q hn), q]; simp⟩
theorem Un.write (mu : Mut (H x)) (he : e = x ∨ H e = some (.own x)) (k : ∀ b u, b ≠ e → h.get? b = some u → h'.get? b = some u) (heo : ∃ u, h'.get? e = some u) : Un fs ex H (upd H x o) h h' := by
  have hx : ∀ b, H b = none → b ≠ x := fun b n z => by subst z; rw [n] at mu; exact mu
  have hb : ∀ b, H b = none → b ≠ e := fun b n z => by
    subst z
    rcases he with r | r
    · exact hx b n r
    · rw [n] at r; cases r
  have hm : ∀ b u, H b = some u → ¬ Mut (some u) → b ≠ x := fun b u q nm z => by subst z; rw [q] at mu; exact nm mu
  refine ⟨fun b u q n _ _ => k b u (hb b n) q, fun b u q n _ _ => ⟨u.slots, k b u (hb b n) q⟩, fun b u q n _ => by rw [upd_ne (hx b n)]; exact n, fun b u q _ => ?_,
    fun b xs q => by rw [upd_ne (hm b _ q fun z => z)]; exact q, fun b u xs q => by rw [upd_ne (hm b _ q fun z => z)]; exact q, fun b ps q => ⟨#[], by rw [upd_ne (hm b _ q fun z => z), q]; simp⟩⟩
  by_cases hbe : b = e
  · subst hbe; exact heo
  · exact ⟨u, k b u hbe q⟩
end

/-! ### the heap without what is tracked -/
def trk (h : Heap) (H : Hp) : List Addr := (List.range h.objs.size).filter fun a => (H a).isSome
def hidT (h : Heap) (H : Hp) : Heap := PySem.W.hideAll h (trk h H)
theorem hidT_size (h : Heap) (H : Hp) : (hidT h H).objs.size = h.objs.size := PySem.W.hideAll_size _ _
theorem hidT_get {h : Heap} {H : Hp} {b : Addr} {o : Obj} (e : h.get? b = some o) (n : H b = none) : (hidT h H).get? b = some o :=
  PySem.W.hideAll_get _ e fun hm => by
    have q : (H b).isSome = true := (List.mem_filter.mp hm).2
    rw [n] at q; simp at q
theorem of_hidT {h : Heap} {H : Hp} {b : Addr} {o : Obj} (e : (hidT h H).get? b = some o) : h.get? b = some o ∧ H b = none := by
  have e' : h.get? b = some o := PySem.W.of_hideAll (trk h H) e
  refine ⟨e', ?_⟩
  cases q : H b with
  | none => rfl
  | some x =>
    have hm : b ∈ trk h H := List.mem_filter.mpr ⟨List.mem_range.mpr (Heap.lt_size e'), by simp [q]⟩
    have z : (hidT h H).get? b = none := PySem.W.hideAll_none (trk h H) hm
    rw [z] at e; cases e

/-! ### OpenK's ledger, filled with every new object but one -/
end L2

namespace L2
open PySem PySem.Spec PyProof.Rows

/-- the module's facts, over the base: the heap at the law's entry without what is tracked there -/
structure Mod (K : PySem.W.Frag) (mg : Str → Option Value) (base : Heap) : Prop where
  kin : K.In base
  glob : base.Ns mainGlobals mg
  blt : ∃ mb, base.Ns builtinsNs mb ∧ ∀ x : Str, x ≠ "__name__" → mb x = bootBuiltins x
  nolimit : base.NoLimit

/-- the context: a def's body (or a comprehension's block) running. base: fixed through the whole law; s₀, H₀: the entry; outer: the frames whose slots others may change (a def's callers); stack: all frames that run;
   ex: iterators that were made ahead of the entry and are walked here (a comprehension's); fn: the names whose cells were made at the entry (a def: all; a comprehension's block: its own); calm: not within an except suite; pn: pins that every state bears; xe: what is wanted of an exception that leaves the code -/
structure Cx where
  prog : Program
  w : World
  K : PySem.W.Frag
  mg : Str → Option Value
  base : Heap
  A : Around
  N : List Str
  s_0 : Shared
  H_0 : Hp
  env : Env
  outer : List Env
  stack : List Env
  ex : List Addr
  fn : Str → Bool
  calm : Bool
  pn : List (Addr × Obj)
  xe : Value → Shared → Prop
/-- the callers' frames -/
def frs (l : List Env) : List Addr := l.filterMap (·.frame)
abbrev Cx.fs (X : Cx) : List Addr := frs X.outer

def Vis (sc : Scope) (x : Str) : Prop := sc.names.lookup x = some .local ∨ sc.names.lookup x = some .cell ∨ sc.names.lookup x = some .free
def Loc (sc : Scope) (x : Str) : Prop := sc.names.lookup x = some .local ∨ sc.names.lookup x = some .cell
def Look (env : Env) (h : Heap) (m : Str → Option Value) (x : Str) (u : Value) : Prop :=
  (env.kindOf x = some .local ∧ m x = some u) ∨ ((env.kindOf x = some .cell ∨ env.kindOf x = some .free) ∧ ∃ c, env.cells.lookup x = some c ∧ h.IsCell c (some u))

structure Cx.Ok (X : Cx) : Prop where
  mod : Mod X.K X.mg X.base
  kind : X.env.scope.kind = .function
  glob : X.env.globals = mainGlobals
  blt : X.env.builtins = builtinsNs
  above : X.s_0.heap.objs.size ≤ X.env.locals
  inj : ∀ x y c, X.env.cells.lookup x = some c → X.env.cells.lookup y = some c → x = y
  has : ∀ x, (X.env.kindOf x = some .cell ∨ X.env.kindOf x = some .free) → ∃ c, X.env.cells.lookup x = some c
  cab : ∀ x c, X.fn x = true → X.env.cells.lookup x = some c → X.s_0.heap.objs.size ≤ c
  hd : X.calm = true → X.A.handled = none
  frames : X.A.frames = some X.stack
  stk : X.stack = X.outer ∨ (X.stack = X.env :: X.outer ∧ X.env.frame = some X.env.locals)
  exf : ∀ b ∈ X.ex, b ≠ X.env.locals ∧ ∀ x c, X.env.cells.lookup x = some c → c ≠ b
  bs : ∀ b o, X.base.get? b = some o → X.s_0.heap.get? b = some o ∧ X.H_0 b = none
  bsz : X.base.objs.size ≤ X.s_0.heap.objs.size
  noex : ∀ b o, X.base.get? b = some o → b ∉ X.ex
  exfs : ∀ b ∈ X.ex, b ∉ X.fs
  funs : X.s_0.heap.FunFrames X.base X.outer
  frf : ∀ b ∈ X.fs, X.H_0 b = none

structure Inv (X : Cx) (pins : List (Addr × Obj)) (σ : List (Option V)) (H : Hp) (s : Shared) : Prop where
  ok : X.Ok
  os : s.os = X.s_0.os
  bare : AllBare s.gens
  base : Un X.fs X.ex X.H_0 H X.s_0.heap s.heap
  loc : ∃ m, s.heap.Ns X.env.locals m ∧ ∀ (i : Nat) (x : Str) (v : V), X.N[i]? = some x → σ[i]? = some (some v) → Vis X.env.scope x → ∃ u, RelV v u ∧ Look X.env s.heap m x u
  cell : ∀ x c, X.env.cells.lookup x = some c → ∃ v, s.heap.IsCell c v
  free : H X.env.locals = none
  freeC : ∀ x c, X.env.cells.lookup x = some c → H c = none
  pin : ∀ p ∈ X.pn ++ pins, s.heap.get? p.1 = some p.2 ∧ H p.1 = none ∧ p.1 ≠ X.env.locals ∧ p.1 ∉ X.fs ∧ ∀ v, p.2.data ≠ .cell v
  hok : HOk X.prog X.w H s.heap
  len : σ.length = X.N.length

section
variable {X : Cx} {pins : List (Addr × Obj)} {σ : List (Option V)} {H H' : Hp} {s : Shared} {h' : Heap}

theorem Cx.Ok.nofr (ok : X.Ok) {b : Addr} {o : Obj} (e : X.base.get? b = some o) : b ∉ X.fs := fun hb => by
  have := (ok.funs.mem hb).1
  rw [e] at this; cases this
theorem Inv.bs (I : Inv X pins σ H s) : ∀ b o, X.base.get? b = some o → s.heap.get? b = some o ∧ H b = none := fun b o e =>
  ⟨I.base.keep b o (I.ok.bs b o e).1 (I.ok.bs b o e).2 (I.ok.nofr e) (I.ok.noex b o e), I.base.free b o (I.ok.bs b o e).1 (I.ok.bs b o e).2 (I.ok.noex b o e)⟩
theorem Inv.bk (I : Inv X pins σ H s) : ∀ b o, X.base.get? b = some o → s.heap.get? b = some o := fun b o e => (I.bs b o e).1
theorem Inv.mod (I : Inv X pins σ H s) : Mod X.K X.mg X.base := I.ok.mod
theorem Inv.kIn (I : Inv X pins σ H s) : X.K.In s.heap := I.ok.mod.kin.keeps I.bk
theorem Inv.lt (I : Inv X pins σ H s) : X.env.locals < s.heap.objs.size := let ⟨_, hn, _⟩ := I.loc; hn.lt
theorem Inv.sz (I : Inv X pins σ H s) : X.s_0.heap.objs.size ≤ s.heap.objs.size := Nat.le_trans I.ok.above (Nat.le_of_lt I.lt)
theorem Inv.nofs (I : Inv X pins σ H s) {a : Addr} (h : s.heap.objs.size ≤ a) : a ∉ X.fs := fun hb => by
  obtain ⟨_, o, ho, _⟩ := I.ok.funs.mem hb
  exact absurd (Nat.lt_of_lt_of_le (Heap.lt_size ho) (Nat.le_trans I.sz h)) (Nat.lt_irrefl _)
theorem Inv.cne (I : Inv X pins σ H s) : ∀ x c, X.env.cells.lookup x = some c → c ≠ X.env.locals := fun x c e z => by
  obtain ⟨v, o, ho, hd⟩ := I.cell x c e
  obtain ⟨m, ⟨o', es, ep, ho', hd', _⟩, _⟩ := I.loc
  rw [z, ho'] at ho; cases ho; rw [hd'] at hd; cases hd
theorem Inv.funs (I : Inv X pins σ H s) : s.heap.FunFrames X.base X.outer := by
  have all : ∀ (l : List Env), (∀ b ∈ frs l, b ∈ X.fs) → X.s_0.heap.FunFrames X.base l → s.heap.FunFrames X.base l := by
    intro l
    induction l with
    | nil => intro _ _; trivial
    | cons env r ih =>
      intro hs hl
      obtain ⟨hk, ⟨L, o, hf, hn, ho, hd⟩, hr⟩ := hl
      have hL : L ∈ X.fs := hs L (by unfold frs; rw [List.filterMap_cons, hf]; exact List.mem_cons_self)
      obtain ⟨sl, e⟩ := I.base.slot L o ho (I.ok.frf L hL) hL fun z => I.ok.exfs L z hL
      exact ⟨hk, ⟨L, _, hf, hn, e, hd⟩, ih (fun b hb => hs b (by unfold frs; rw [List.filterMap_cons, hf]; exact List.mem_cons_of_mem _ hb)) hr⟩
  exact all X.outer (fun _ hb => hb) I.ok.funs

/-- the frames that run, for a call -/
theorem Inv.stack (I : Inv X pins σ H s) : s.heap.FunFrames X.base X.stack := by
  rcases I.ok.stk with e | ⟨e, hf⟩
  · rw [e]; exact I.funs
  · rw [e]
    obtain ⟨m, hn, _⟩ := I.loc
    refine .cons (by rw [I.ok.kind]; decide) hf hn ?_ I.funs
    exact Heap.get?_none_of_le (Nat.le_trans I.ok.bsz I.ok.above)
theorem Inv.stkSub (I : Inv X pins σ H s) : ∀ b ∈ frs X.stack, b ∈ X.env.locals :: X.fs := fun b hb => by
  rcases I.ok.stk with e | ⟨e, hf⟩
  · rw [e] at hb; exact List.mem_cons_of_mem _ hb
  · rw [e] at hb
    unfold frs at hb
    rw [List.filterMap_cons, hf] at hb
    exact hb
theorem Inv.stkFree (I : Inv X pins σ H s) : ∀ b ∈ frs X.stack, H b = none := fun b hb => by
  rcases List.mem_cons.mp (I.stkSub b hb) with e | hb
  · rw [e]; exact I.free
  · obtain ⟨_, o, ho, _⟩ := I.ok.funs.mem hb
    exact I.base.free b o ho (I.ok.frf b hb) fun z => I.ok.exfs b z hb

/-- THE STEP: the untracked objects but the frame and the records at ch are kept (the callers' frames up to slots), the frame's map is kept, the new abstract heap is held -/
theorem Inv.step {g' : Array GenState} {t' : Nat} {d' : Drawn} {ch : List Addr} (I : Inv X pins σ H s)
    (hch : ∀ b ∈ ch, (b ∈ X.ex ∨ X.s_0.heap.objs.size ≤ b) ∧ b ≠ X.env.locals ∧ (∀ x c, X.env.cells.lookup x = some c → c ≠ b) ∧ ∀ p ∈ X.pn ++ pins, p.1 ≠ b)
    (keep : ∀ b o, b ≠ X.env.locals → b ∉ X.fs → b ∉ ch → s.heap.get? b = some o → H b = none → h'.get? b = some o)
    (slot : ∀ b o, b ≠ X.env.locals → b ∈ X.fs → b ∉ ch → s.heap.get? b = some o → H b = none → ∃ sl, h'.get? b = some { o with slots := sl }) (free : ∀ b o, b ∉ ch → s.heap.get? b = some o → H b = none → H' b = none)
    (there : ∀ b o, b ∉ ch → s.heap.get? b = some o → ∃ o', h'.get? b = some o')
    (tups : ∀ b xs, H b = some (.tup xs) → H' b = some (.tup xs)) (frzs : ∀ b o u, H b = some (.frz o u) → H' b = some (.frz o u)) (tbls : ∀ b ps, H b = some (.tbl ps) → ∃ more, H' b = some (.tbl (ps ++ more)))
    (ns : ∀ m, s.heap.Ns X.env.locals m → h'.Ns X.env.locals m) (hok : HOk X.prog X.w H' h') (hg : AllBare g') :
    Inv X pins σ H' { s with heap := h', gens := g', drawn := d', toks := t' } := by
  have neL : ∀ b o, X.s_0.heap.get? b = some o → b ≠ X.env.locals := fun b o e => Nat.ne_of_lt (Nat.lt_of_lt_of_le (Heap.lt_size e) I.ok.above)
  have neC : ∀ b o, X.s_0.heap.get? b = some o → b ∉ X.ex → b ∉ ch := fun b o e hx hb => by
    rcases (hch b hb).1 with z | z
    · exact hx z
    · exact absurd (Nat.lt_of_lt_of_le (Heap.lt_size e) z) (Nat.lt_irrefl _)
  have cellK : ∀ x c, X.env.cells.lookup x = some c → ∀ v, s.heap.IsCell c v → h'.IsCell c v := fun x c e v ⟨o, ho, hd⟩ => by
    have nch : c ∉ ch := fun z => (hch c z).2.2.1 x c e rfl
    by_cases hc : c ∈ X.fs
    · obtain ⟨sl, q⟩ := slot c o (I.cne x c e) hc nch ho (I.freeC x c e)
      exact ⟨_, q, hd⟩
    · exact ⟨o, keep c o (I.cne x c e) hc nch ho (I.freeC x c e), hd⟩
  refine ⟨I.ok, I.os, hg, ⟨fun b o e n hb hx => ?_, fun b o e n hb hx => ?_, fun b o e n hx => ?_, fun b o e hx => ?_, fun b xs e => tups b xs (I.base.tups b xs e), fun b o xs e => frzs b o xs (I.base.frzs b o xs e), fun b ps e => ?_⟩, ?_, fun x c e => ?_, ?_, fun x c e => ?_, fun p hp => ?_, hok, I.len⟩
  · exact keep b o (neL b o e) hb (neC b o e hx) (I.base.keep b o e n hb hx) (I.base.free b o e n hx)
  · obtain ⟨sl, e1⟩ := I.base.slot b o e n hb hx
    obtain ⟨sl', e2⟩ := slot b _ (neL b o e) hb (neC b o e hx) e1 (I.base.free b o e n hx)
    exact ⟨sl', e2⟩
  · obtain ⟨o', e1⟩ := I.base.there b o e hx
    exact free b o' (neC b o e hx) e1 (I.base.free b o e n hx)
  · obtain ⟨o', e1⟩ := I.base.there b o e hx
    exact there b o' (neC b o e hx) e1
  · obtain ⟨m1, e1⟩ := I.base.tbls b ps e
    obtain ⟨m2, e2⟩ := tbls b _ e1
    exact ⟨m1 ++ m2, by rw [e2, Array.append_assoc]⟩
  · obtain ⟨m, hn, hl⟩ := I.loc
    refine ⟨m, ns m hn, fun i x v e1 e2 e3 => ?_⟩
    obtain ⟨u, r, l⟩ := hl i x v e1 e2 e3
    refine ⟨u, r, ?_⟩
    rcases l with l | ⟨k, c, e, z⟩
    · exact .inl l
    · exact .inr ⟨k, c, e, cellK x c e _ z⟩
  · obtain ⟨v, z⟩ := I.cell x c e
    exact ⟨v, cellK x c e v z⟩
  · obtain ⟨m, ⟨o, _, _, ho, _⟩, _⟩ := I.loc
    exact free _ o (fun z => (hch _ z).2.1 rfl) ho I.free
  · obtain ⟨v, o, ho, hd⟩ := I.cell x c e
    exact free c o (fun z => (hch c z).2.2.1 x c e rfl) ho (I.freeC x c e)
  · obtain ⟨e, n, ne, nf, d⟩ := I.pin p hp
    have nch : p.1 ∉ ch := fun z => (hch p.1 z).2.2.2 p hp rfl
    exact ⟨keep p.1 p.2 ne nf nch e n, free p.1 p.2 nch e n, ne, nf, d⟩
/-- .. where the frame's own object is kept too -/
theorem Inv.un {t' : Nat} (I : Inv X pins σ H s) (u : Un X.fs [] H H' s.heap h') (hok : HOk X.prog X.w H' h') : Inv X pins σ H' { s with heap := h', toks := t' } := by
  obtain ⟨m, ⟨o, es, ep, ho, r⟩, _⟩ := id I.loc
  obtain ⟨sl, hL⟩ := u.any ho I.free (by simp)
  exact I.step (g' := s.gens) (d' := s.drawn) (ch := []) (fun _ z => nomatch z) (fun b o _ hb _ e n => u.keep b o e n hb (by simp)) (fun b o _ hb _ e n => u.slot b o e n hb (by simp)) (fun b o _ e n => u.free b o e n (by simp)) (fun b o _ e => u.there b o e (by simp)) u.tups u.frzs u.tbls (fun m' hm => by
    obtain ⟨o', es', ep', ho', r'⟩ := hm
    rw [ho] at ho'; cases ho'
    exact ⟨_, es', ep', hL, r'⟩) hok I.bare
/-- behind a call (or a comprehension's block): the slots of this frame may have changed too, the records at ch may have turned -/
theorem Inv.call {g' : Array GenState} {t' : Nat} {d' : Drawn} {ch : List Addr} (I : Inv X pins σ H s) (u : Un (frs X.stack) ch H H' s.heap h') (hok : HOk X.prog X.w H' h') (hg : AllBare g')
    (hch : ∀ b ∈ ch, (b ∈ X.ex ∨ X.s_0.heap.objs.size ≤ b) ∧ b ≠ X.env.locals ∧ (∀ x c, X.env.cells.lookup x = some c → c ≠ b) ∧ ∀ p ∈ X.pn ++ pins, p.1 ≠ b) :
    Inv X pins σ H' { s with heap := h', gens := g', drawn := d', toks := t' } := by
  obtain ⟨m, ⟨o, es, ep, ho, r⟩, _⟩ := id I.loc
  obtain ⟨sl, hL⟩ := u.any ho I.free fun z => (hch _ z).2.1 rfl
  exact I.step (ch := ch) hch (fun b o hL hb hc e n => u.keep b o e n (fun z => (List.mem_cons.mp (I.stkSub b z)).elim hL hb) hc) (fun b o _ _ hc e n => u.any e n hc) (fun b o hc e n => u.free b o e n hc) (fun b o hc e => u.there b o e hc) u.tups u.frzs u.tbls (fun m' hm => by
    obtain ⟨o', es', ep', ho', r'⟩ := hm
    rw [ho] at ho'; cases ho'
    exact ⟨_, es', ep', hL, r'⟩) hok hg
/-- an untracked record of ours (an iterator) has turned -/
theorem Inv.turned {t' : Nat} {it : Addr} (I : Inv X pins σ H s) (k : ∀ b o, b ≠ it → s.heap.get? b = some o → h'.get? b = some o) (hn : H it = none) (hL : it ≠ X.env.locals)
    (h1 : it ∈ X.ex ∨ X.s_0.heap.objs.size ≤ it) (h2 : ∀ x c, X.env.cells.lookup x = some c → c ≠ it) (h3 : ∀ p ∈ X.pn ++ pins, p.1 ≠ it) : Inv X pins σ H { s with heap := h', toks := t' } := by
  have nit : ∀ b u, H b = some u → b ≠ it := fun b u e z => by rw [z, hn] at e; cases e
  refine I.step (g' := s.gens) (d' := s.drawn) (ch := [it]) (fun b hb => ?_) (fun b o _ _ hc e _ => k b o (fun z => hc (by simp [z])) e) (fun b o _ _ hc e _ => ⟨o.slots, k b o (fun z => hc (by simp [z])) e⟩) (fun _ _ _ _ n => n)
    (fun b o hc e => ⟨o, k b o (fun z => hc (by simp [z])) e⟩) (fun _ _ e => e) (fun _ _ _ e => e) (fun b ps e => ⟨#[], by rw [e]; simp⟩) (fun m hm => ?_) (fun b u e => ?_) I.bare
  · have e : b = it := by simpa using hb
    subst e
    exact ⟨h1, hL, h2, h3⟩
  · obtain ⟨o, es, ep, ho, r⟩ := hm
    exact ⟨o, es, ep, k _ o (Ne.symm hL) ho, r⟩
  · refine (I.hok b u e).stay (fun c v hc q => k c v ?_ q) (fun _ q => q) fun _ _ q => q
    rcases hc with z | z
    · rw [z]; exact nit b u e
    · exact nit c _ z
theorem Inv.tok (I : Inv X pins σ H s) (t : Nat) : Inv X pins σ H { s with toks := t } := I.un (h' := s.heap) (t' := t) Un.refl I.hok
/-- all objects kept -/
theorem Inv.kept {t' : Nat} (I : Inv X pins σ H s) (k : ∀ b u, s.heap.get? b = some u → h'.get? b = some u) : Inv X pins σ H { s with heap := h', toks := t' } := I.un (Un.kept k) (I.hok.kept k)
/-- a new object laid and tracked -/
theorem Inv.laid {a : Addr} {o : HO} {t' : Nat} (I : Inv X pins σ H s) (k : ∀ b u, s.heap.get? b = some u → h'.get? b = some u) (hp : s.heap.objs.size ≤ a) (new : ObjOk X.prog X.w (upd H a o) h' a o) :
    Inv X pins σ (upd H a o) { s with heap := h', toks := t' } := I.un (Un.laid k hp (I.hok.fresh hp)) (I.hok.laid k hp new)
/-- an object written -/
theorem Inv.write {x e : Addr} {o : HO} {t' : Nat} (I : Inv X pins σ H s) (mu : Mut (H x)) (he : e = x ∨ H e = some (.own x)) (k : ∀ b u, b ≠ e → s.heap.get? b = some u → h'.get? b = some u) (heo : ∃ u, h'.get? e = some u)
    (new : ObjOk X.prog X.w (upd H x o) h' x o) : Inv X pins σ (upd H x o) { s with heap := h', toks := t' } := I.un (Un.write mu he k heo) (I.hok.write mu he k heo new)
/-- forgetting slots, pins -/
theorem Inv.weak {σ' : List (Option V)} (I : Inv X pins σ H s) (hl : σ'.length = σ.length) (w : ∀ (i : Nat) v, σ'[i]? = some (some v) → σ[i]? = some (some v)) : Inv X pins σ' H s :=
  ⟨I.ok, I.os, I.bare, I.base, let ⟨m, hn, hl'⟩ := I.loc; ⟨m, hn, fun i x v e1 e2 e3 => hl' i x v e1 (w i v e2) e3⟩, I.cell, I.free, I.freeC, I.pin, I.hok, hl.trans I.len⟩
theorem Inv.pins_of {pins' : List (Addr × Obj)} (I : Inv X pins σ H s) (h : ∀ p ∈ pins', s.heap.get? p.1 = some p.2 ∧ H p.1 = none ∧ p.1 ≠ X.env.locals ∧ p.1 ∉ X.fs ∧ ∀ v, p.2.data ≠ .cell v) : Inv X pins' σ H s :=
  ⟨I.ok, I.os, I.bare, I.base, I.loc, I.cell, I.free, I.freeC, fun p hp => (List.mem_append.mp hp).elim (fun z => I.pin p (List.mem_append_left _ z)) (h p), I.hok, I.len⟩

theorem nodup_ix {N : List Str} (hN : N.Nodup) {i j : Nat} {x : Str} (a : N[i]? = some x) (b : N[j]? = some x) : i = j := by
  obtain ⟨h1, e1⟩ := List.getElem?_eq_some_iff.mp a
  obtain ⟨h2, e2⟩ := List.getElem?_eq_some_iff.mp b
  exact (List.getElem_inj hN).mp (e1.trans e2.symm)

/-- a name is stored; what changed -/
theorem store_ok2 {M : Model} {A : Around} {E : Value → Shared → Prop} {i : Nat} {x : Str} {v : V} {u : Value} {Q : Unit → Shared → Prop} (I : Inv X pins σ H s) (hN : X.N.Nodup) (hi : X.N[i]? = some x) (hx : Loc X.env.scope x) (r : RelV v u)
    (h : ∀ s', Inv X pins (σ.set i (some v)) H s' → (∃ a, Heap.SameBut a s.heap s'.heap ∧ (a = X.env.locals ∨ X.env.cells.lookup x = some a)) → Q () s') (hf : X.fn x = true ∨ X.env.scope.names.lookup x = some .local := by first | exact .inl rfl | exact .inr rfl | assumption) : wpAny M A (storeName X.env x u) Q E s := by
  obtain ⟨m, hn, hl⟩ := id I.loc
  have hcls : (X.env.scope.kind == .class || (X.env.scope.kind == .module && X.env.locals != X.env.globals)) = false := by rw [I.ok.kind]; rfl
  have hiσ : i < σ.length := by rw [I.len]; exact (List.getElem?_eq_some_iff.mp hi).1
  have cne := I.cne
  have tracked : ∀ {a : Addr} {h' : Heap}, (∃ o, s.heap.get? a = some o ∧ H a = none) → Heap.SameBut a s.heap h' → HOk X.prog X.w H h' := fun {a h'} ha hs b ob e => by
    obtain ⟨_, _, hfree⟩ := ha
    refine (I.hok b ob e).stay (fun c w' hc q => (hs.2 c ?_).trans q) (fun _ q => q) fun _ _ q => q
    rintro rfl
    rcases hc with rfl | hc
    · rw [hfree] at e; cases e
    · rw [hfree] at hc; cases hc
  rcases hx with hk | hk
  · refine wpAny_storeName_local hk hn (fun h' hn' hs => ?_) hcls
    obtain ⟨oL, _, _, hoL, _⟩ := id hn
    refine h _ ⟨I.ok, I.os, I.bare, ⟨fun b o e n hb hx => ?_, fun b o e n hb hx => ?_, I.base.free, fun b o e hx => ?_, I.base.tups, I.base.frzs, I.base.tbls⟩, ⟨_, hn', fun j y v' e1 e2 e3 => ?_⟩, fun y c e => ?_, I.free, I.freeC, fun p hp => ?_, tracked ⟨oL, hoL, I.free⟩ hs, by simpa using I.len⟩ ⟨_, hs, .inl rfl⟩
    · exact (hs.2 b (Nat.ne_of_lt (Nat.lt_of_lt_of_le (Heap.lt_size e) I.ok.above))).trans (I.base.keep b o e n hb hx)
    · obtain ⟨sl, e1⟩ := I.base.slot b o e n hb hx
      exact ⟨sl, (hs.2 b (Nat.ne_of_lt (Nat.lt_of_lt_of_le (Heap.lt_size e) I.ok.above))).trans e1⟩
    · obtain ⟨o', e1⟩ := I.base.there b o e hx
      exact ⟨o', (hs.2 b (Nat.ne_of_lt (Nat.lt_of_lt_of_le (Heap.lt_size e) I.ok.above))).trans e1⟩
    · by_cases hj : j = i
      · subst hj
        rw [hi] at e1; cases e1
        rw [List.getElem?_set_self hiσ] at e2
        cases e2
        exact ⟨u, r, .inl ⟨hk, by simp⟩⟩
      · rw [List.getElem?_set_ne (Ne.symm hj)] at e2
        obtain ⟨u', r', q⟩ := hl j y v' e1 e2 e3
        refine ⟨u', r', ?_⟩
        rcases q with ⟨k, e⟩ | ⟨k, c, e, z⟩
        · refine .inl ⟨k, ?_⟩
          have : y ≠ x := fun e => hj (nodup_ix hN e1 (e ▸ hi))
          simp [this, e]
        · exact .inr ⟨k, c, e, z.sameBut hs (cne y c e)⟩
    · obtain ⟨w', z⟩ := I.cell y c e
      exact ⟨w', z.sameBut hs (cne y c e)⟩
    · obtain ⟨e, n, ne, nf, d⟩ := I.pin p hp
      exact ⟨(hs.2 p.1 ne).trans e, n, ne, nf, d⟩
  · have hfn : X.fn x = true := by
      rcases hf with z | z
      · exact z
      · rw [z] at hk; cases hk
    obtain ⟨c, hc⟩ := I.ok.has x (.inl hk)
    obtain ⟨w', z⟩ := I.cell x c hc
    refine wpAny_storeName_cell I.ok.kind hk hc z (fun h' hc' hs => ?_)
    obtain ⟨oc, hoc, hocd⟩ := id z
    refine h { s with heap := h' } ⟨I.ok, I.os, I.bare, ⟨fun b o e n hb hx => ?_, fun b o e n hb hx => ?_, I.base.free, fun b o e hx => ?_, I.base.tups, I.base.frzs, I.base.tbls⟩, ⟨m, hn.sameBut hs (Ne.symm (cne x c hc)), fun j y v' e1 e2 e3 => ?_⟩, fun y c' e => ?_, I.free, I.freeC, fun p hp => ?_, tracked ⟨oc, hoc, I.freeC x c hc⟩ hs, by simpa using I.len⟩ ⟨c, hs, .inr hc⟩
    · exact (hs.2 b (Nat.ne_of_lt (Nat.lt_of_lt_of_le (Heap.lt_size e) (I.ok.cab x c hfn hc)))).trans (I.base.keep b o e n hb hx)
    · obtain ⟨sl, e1⟩ := I.base.slot b o e n hb hx
      exact ⟨sl, (hs.2 b (Nat.ne_of_lt (Nat.lt_of_lt_of_le (Heap.lt_size e) (I.ok.cab x c hfn hc)))).trans e1⟩
    · obtain ⟨o', e1⟩ := I.base.there b o e hx
      exact ⟨o', (hs.2 b (Nat.ne_of_lt (Nat.lt_of_lt_of_le (Heap.lt_size e) (I.ok.cab x c hfn hc)))).trans e1⟩
    · by_cases hj : j = i
      · subst hj
        rw [hi] at e1; cases e1
        rw [List.getElem?_set_self hiσ] at e2
        cases e2
        exact ⟨u, r, .inr ⟨.inl hk, c, hc, hc'⟩⟩
      · rw [List.getElem?_set_ne (Ne.symm hj)] at e2
        obtain ⟨u', r', q⟩ := hl j y v' e1 e2 e3
        refine ⟨u', r', ?_⟩
        rcases q with q | ⟨k, c', e, z'⟩
        · exact .inl q
        · refine .inr ⟨k, c', e, z'.sameBut hs ?_⟩
          rintro rfl
          exact hj (nodup_ix hN e1 (I.ok.inj _ _ _ e hc ▸ hi))
    · by_cases hcc : c' = c
      · subst hcc; exact ⟨_, hc'⟩
      · obtain ⟨w2, z2⟩ := I.cell y c' e
        exact ⟨w2, z2.sameBut hs hcc⟩
    · obtain ⟨e, n, ne, nf, d⟩ := I.pin p hp
      refine ⟨(hs.2 p.1 ?_).trans e, n, ne, nf, d⟩
      intro q
      rw [q, hoc] at e
      have q' : oc = p.2 := Option.some.inj e
      exact d w' (by rw [← q']; exact hocd)
theorem store_ok {M : Model} {A : Around} {E : Value → Shared → Prop} {i : Nat} {x : Str} {v : V} {u : Value} {Q : Unit → Shared → Prop} (I : Inv X pins σ H s) (hN : X.N.Nodup) (hi : X.N[i]? = some x) (hx : Loc X.env.scope x) (r : RelV v u)
    (h : ∀ s', Inv X pins (σ.set i (some v)) H s' → Q () s') (hf : X.fn x = true ∨ X.env.scope.names.lookup x = some .local := by first | exact .inl rfl | exact .inr rfl | assumption) : wpAny M A (storeName X.env x u) Q E s :=
  store_ok2 I hN hi hx r (fun s' I' _ => h s' I') hf
/-- behind a call or a block, the state as it is -/
theorem Inv.call' {s' : Shared} {ch : List Addr} (I : Inv X pins σ H s) (ho : s'.os = s.os) (u : Un (frs X.stack) ch H H' s.heap s'.heap) (hok : HOk X.prog X.w H' s'.heap) (hg : AllBare s'.gens)
    (hch : ∀ b ∈ ch, (b ∈ X.ex ∨ X.s_0.heap.objs.size ≤ b) ∧ b ≠ X.env.locals ∧ (∀ x c, X.env.cells.lookup x = some c → c ≠ b) ∧ ∀ p ∈ X.pn ++ pins, p.1 ≠ b) : Inv X pins σ H' s' := by
  obtain ⟨h', g', d', t', o'⟩ := s'
  have e : o' = s.os := ho
  subst e
  exact I.call (g' := g') (t' := t') (d' := d') u hok hg hch
end

/-! ### the judgements -/
/-- an exception: its class, its own dict's address (where it has one), the abstract heap behind it -/
abbrev XK := Value → Option Addr → Hp → Prop
abbrev St := List (Option V)
abbrev VK := V → Hp → Prop
/-- an expression's reading; a test's; an argument list's -/
abbrev TE := St → Hp → VK → Prop
abbrev TT := St → Hp → (Bool → Hp → Prop) → Prop
abbrev TA := St → Hp → (List V → Hp → Prop) → Prop
/-- what is wanted behind a statement -/
structure Ends where
  nx : St → Hp → Prop
  rt : VK
  bk : St → Hp → Prop := fun _ _ => False
  ct : St → Hp → Prop := fun _ _ => False
abbrev TS := Ends → St → Hp → Prop

def EP (X : Cx) (pins : List (Addr × Obj)) (σ : St) (Q : VK) (u : Value) (s' : Shared) : Prop := ∃ v H', Inv X pins σ H' s' ∧ RelV v u ∧ Q v H'
def TP (X : Cx) (pins : List (Addr × Obj)) (σ : St) (Q : Bool → Hp → Prop) (b : Bool) (s' : Shared) : Prop := ∃ H', Inv X pins σ H' s' ∧ Q b H'
def AP (X : Cx) (pins : List (Addr × Obj)) (σ : St) (Q : List V → Hp → Prop) (us : List Value) (s' : Shared) : Prop := ∃ vs H', Inv X pins σ H' s' ∧ Vals vs us ∧ Q vs H'
def SP (X : Cx) (pins : List (Addr × Obj)) (D : Ends) (f : Flow) (s' : Shared) : Prop :=
  match f with
  | .next => ∃ σ' H', Inv X pins σ' H' s' ∧ D.nx σ' H'
  | .brk => ∃ σ' H', Inv X pins σ' H' s' ∧ D.bk σ' H'
  | .cont => ∃ σ' H', Inv X pins σ' H' s' ∧ D.ct σ' H'
  | .ret u => ∃ v σ' H', Inv X pins σ' H' s' ∧ RelV v u ∧ D.rt v H'

def PE (X : Cx) (e : Expr) (t : TE) : Prop :=
  ∀ (pins : List (Addr × Obj)) (s : Shared) (σ : St) (H : Hp) (Q : VK), Inv X pins σ H s → t σ H Q → wpAny (model X.prog X.w) X.A (eval e X.env) (EP X pins σ Q) X.xe s
def PT (X : Cx) (e : Expr) (t : TT) : Prop :=
  ∀ (pins : List (Addr × Obj)) (s : Shared) (σ : St) (H : Hp) (Q : Bool → Hp → Prop), Inv X pins σ H s → t σ H Q → wpAny (model X.prog X.w) X.A (isTrue e X.env (eval e X.env)) (TP X pins σ Q) X.xe s
/-- a test whatever its 'whole' is (and, or) -/
def PW (X : Cx) (e : Expr) (t : TT) : Prop :=
  ∀ (whole : Sem Value) (pins : List (Addr × Obj)) (s : Shared) (σ : St) (H : Hp) (Q : Bool → Hp → Prop), Inv X pins σ H s → t σ H Q → wpAny (model X.prog X.w) X.A (isTrue e X.env whole) (TP X pins σ Q) X.xe s
theorem PW.pt {X : Cx} {e : Expr} {t : TT} (h : PW X e t) : PT X e t := h _
/-- an argument list (no star), from the left -/
def PA (X : Cx) (es : List Expr) (t : TA) : Prop :=
  ∀ (pos : Pos) (pins : List (Addr × Obj)) (s : Shared) (σ : St) (H : Hp) (Q : List V → Hp → Prop), Inv X pins σ H s → t σ H Q → wpAny (model X.prog X.w) X.A (spliced (backTo pos (starEach es X.env))) (AP X pins σ Q) X.xe s
def PS (X : Cx) (st : Stmt) (t : TS) : Prop :=
  ∀ (pins : List (Addr × Obj)) (s : Shared) (σ : St) (H : Hp) (D : Ends), Inv X pins σ H s → t D σ H → wpAny (model X.prog X.w) X.A (exec st X.env) (SP X pins D) X.xe s
def PSs (X : Cx) (st : List Stmt) (t : TS) : Prop :=
  ∀ (pins : List (Addr × Obj)) (s : Shared) (σ : St) (H : Hp) (D : Ends), Inv X pins σ H s → t D σ H → wpAny (model X.prog X.w) X.A (execs st X.env) (SP X pins D) X.xe s
/-- weaken the end -/
theorem thn {α : Type} {t : Sem α} {Q Q' : α → Shared → Prop} {M : Model} {A : Around} {E : Value → Shared → Prop} {s : Shared} (h : wpAny M A t Q E s) (hQ : ∀ a s, Q a s → Q' a s) : wpAny M A t Q' E s := wpAny_mono h hQ fun _ _ x => x
end L2

namespace L2
open PySem PySem.Spec PyProof.Rows
section
variable {X : Cx}

/-! ### names and constants -/
def tVar (i : Nat) : TE := fun σ H Q => ∃ v, σ[i]? = some (some v) ∧ Q v H
def tC (v : V) : TE := fun _ H Q => Q v H
theorem pe_var {i : Nat} {x : Str} {pos : Pos} (hN : X.N[i]? = some x) (hv : Vis X.env.scope x) (hd : (x == ("__debug__" : Str)) = false := by decide) (hcd : (x == ("__classdict__" : Str)) = false := by decide) : PE X (.Name x pos) (tVar i) := by
  intro pins s σ H Q I h
  obtain ⟨v, e, h⟩ := h
  obtain ⟨m, hn, hl⟩ := I.loc
  obtain ⟨u, r, l⟩ := hl i x v hN e hv
  have fin : EP X pins σ Q u s := ⟨v, H, I, r, h⟩
  rcases l with ⟨hk, hm⟩ | ⟨hk, c, hc, hcell⟩
  · exact wpAny_Name (wpAny_loadName_local I.ok.kind hk hn hm fin) hd
  · rcases hk with hk | hk
    · exact wpAny_Name (wpAny_loadName_cell I.ok.kind hk hc hcell fin) hd
    · exact wpAny_Name (wpAny_loadName_free I.ok.kind hk hc hcell fin hcd) hd
theorem pe_int {i j pos} : PE X (.Constant (.int i) j pos) (tC (.int i)) := fun _ _ _ H _ I h => wpAny_Constant_int ⟨.int i, H, I.tok _, ⟨_, rfl⟩, h⟩
theorem pe_bl {b j pos} : PE X (.Constant (.bool b) j pos) (tC (.bl b)) := fun _ _ _ H _ I h => Constant_bool ⟨.bl b, H, I, rfl, h⟩
theorem pe_non {j pos} : PE X (.Constant .none j pos) (tC .non) := fun _ _ _ H _ I h => Constant_none ⟨.non, H, I, rfl, h⟩

/-- a global name of the def -/
def Gl (X : Cx) (x : Str) : Prop := X.env.kindOf x = some .globalImplicit
theorem ld_glob {E : Value → Shared → Prop} {pins : List (Addr × Obj)} {s : Shared} {σ : St} {H : Hp} {x : Str} {u : Value} {pos : Pos} {Q : Value → Shared → Prop} (I : Inv X pins σ H s) (hg : Gl X x) (hm : X.mg x = some u) (h : Q u s)
    (hd : (x == ("__debug__" : Str)) = false := by decide) : wpAny (model X.prog X.w) X.A (eval (.Name x pos) X.env) Q E s :=
  Calls.Name_function_global I.ok.kind hg (Calls.loadGlobal_global (by rw [I.ok.glob]; exact I.mod.glob.keeps I.bk) hm h) hd
theorem ld_blt {E : Value → Shared → Prop} {pins : List (Addr × Obj)} {s : Shared} {σ : St} {H : Hp} {x : Str} {u : Value} {pos : Pos} {Q : Value → Shared → Prop} (I : Inv X pins σ H s) (hg : Gl X x) (hm : X.mg x = none) (hv : bootBuiltins x = some u) (h : Q u s)
    (hn : x ≠ "__name__" := by decide) (hd : (x == ("__debug__" : Str)) = false := by decide) : wpAny (model X.prog X.w) X.A (eval (.Name x pos) X.env) Q E s := by
  obtain ⟨mb, h1, h2⟩ := I.mod.blt
  exact Calls.Name_function_global I.ok.kind hg (Calls.loadGlobal_builtin (by rw [I.ok.glob]; exact I.mod.glob.keeps I.bk) hm (by rw [I.ok.blt]; exact h1.keeps I.bk) ((h2 x hn).trans hv) h) hd
/-- a module's constant, a class, a function, as a value -/
theorem pe_glob {x : Str} {v : V} {u : Value} {pos : Pos} (hg : Gl X x) (hm : X.mg x = some u) (r : RelV v u) (hd : (x == ("__debug__" : Str)) = false := by decide) : PE X (.Name x pos) (tC v) :=
  fun _ _ _ H _ I h => ld_glob I hg hm ⟨v, H, I, r, h⟩ hd

/-! ### arithmetic -/
variable {a b : Expr} {ta tb : TE} {pos : Pos}

/-! ### comparisons -/
/-- a comparison as a value, as a test -/
def tB (t : TE) : TT := fun σ H Q => t σ H fun x H1 => ∃ c, x = .bl c ∧ Q c H1
/-- an expression whose value is a bool, as a test -/
theorem pt_val {e : Expr} {t : TE} (h : PE X e t) (he : ∀ whole, isTrue e X.env whole = (do let v ← whole; standAt e.pos; holding [v] (truthy v)) := by intro _; rfl) : PT X e (tB t) := by
  intro pins s σ H Q I hw
  refine isTrue_plain (thn (h pins s σ H _ I hw) fun v s1 ⟨x, H1, I1, r1, q1⟩ => ?_) (he _)
  obtain ⟨d, rfl, q⟩ := q1
  cases r1
  exact wpAny_truthy_bool ⟨H1, I1, q⟩

/-! ### and, or, not -/
variable {tA tB' : TT} {rest : List Expr}
def tAnd (t u : TT) : TT := fun σ H Q => t σ H fun c H1 => if c = true then u σ H1 Q else Q false H1
def tOr (t u : TT) : TT := fun σ H Q => t σ H fun c H1 => if c = true then Q true H1 else u σ H1 Q
def tNot (t : TT) : TT := fun σ H Q => t σ H fun c H1 => Q (!c) H1
theorem pw_and1 (ha : PT X a tA) : PW X (.BoolOp .And [a] pos) tA := by
  intro wh pins s σ H Q I h
  refine isTrue_and (thn (ha pins s σ H Q I h) fun c s1 e => ?_)
  cases c with
  | true => exact isTrue_and_nil e
  | false => exact e
theorem pw_or1 (ha : PT X a tA) : PW X (.BoolOp .Or [a] pos) tA := by
  intro wh pins s σ H Q I h
  refine isTrue_or (thn (ha pins s σ H Q I h) fun c s1 e => ?_)
  cases c with
  | false => exact isTrue_or_nil e
  | true => exact e
theorem pw_and (ha : PT X a tA) (hb : PW X (.BoolOp .And (b :: rest) pos) tB') : PW X (.BoolOp .And (a :: b :: rest) pos) (tAnd tA tB') := by
  intro wh pins s σ H Q I h
  refine isTrue_and (thn (ha pins s σ H _ I h) fun c s1 ⟨H1, I1, q1⟩ => ?_)
  cases c with
  | true => exact hb wh pins s1 σ H1 Q I1 q1
  | false => exact ⟨H1, I1, q1⟩
theorem pw_or (ha : PT X a tA) (hb : PW X (.BoolOp .Or (b :: rest) pos) tB') : PW X (.BoolOp .Or (a :: b :: rest) pos) (tOr tA tB') := by
  intro wh pins s σ H Q I h
  refine isTrue_or (thn (ha pins s σ H _ I h) fun c s1 ⟨H1, I1, q1⟩ => ?_)
  cases c with
  | true => exact ⟨H1, I1, q1⟩
  | false => exact hb wh pins s1 σ H1 Q I1 q1
theorem pt_not (ha : PT X a tA) : PT X (.UnaryOp .Not a pos) (tNot tA) := by
  intro pins s σ H Q I h
  exact isTrue_not (ha pins s σ H (fun c H1 => Q (!c) H1) I h)
/-- .. as values (bools) -/
def tAndV (ta tb : TE) : TE := fun σ H Q => ta σ H fun x H1 => ∃ c, x = .bl c ∧ if c = true then tb σ H1 Q else Q (.bl false) H1
theorem pe_one {op} {t : TE} (h : PE X a t) : PE X (.BoolOp op [a] pos) t := fun pins s σ H Q I hw => BoolOp_one (h pins s σ H Q I hw)
theorem pe_and (ha : PE X a ta) (hb : PE X (.BoolOp .And (b :: rest) pos) tb) : PE X (.BoolOp .And (a :: b :: rest) pos) (tAndV ta tb) := by
  intro pins s σ H Q I h
  refine BoolOp_and (thn (ha pins s σ H _ I h) fun v s1 ⟨x, H1, I1, r1, q1⟩ => ?_)
  obtain ⟨c, rfl, q1⟩ := q1
  cases r1
  refine wpAny_truthy_bool ?_
  cases c with
  | true => exact hb pins s1 σ H1 Q I1 q1
  | false => exact ⟨.bl false, H1, I1, rfl, q1⟩
end
end L2

namespace L2
open PySem PySem.Spec PyProof.Rows

/-! ### a list, a tuple that is read: tracked, frozen, or an object of the module -/
def SqL (K : PySem.W.Frag) (H : Hp) (a : Addr) (xs : List V) : Prop :=
  Rd H a (.lst xs) ∨
    ∃ (o : Obj) (its : Array Value) (n : Nat), K.lookup a = some o ∧ o.cls = .type "list" ∧ o.dict = none ∧ o.data = .seq its n ∧ its.size ≤ sizeLine ∧ Vals xs its.toList
def SqT (K : PySem.W.Frag) (H : Hp) (a : Addr) (xs : List V) : Prop :=
  Rd H a (.tup xs) ∨
    ∃ (o : Obj) (its : Array Value) (n : Nat), K.lookup a = some o ∧ o.cls = .type "tuple" ∧ o.data = .seq its n ∧ its.size ≤ sizeLine ∧ Vals xs its.toList
def absV : Value → Option V
  | .none => some .non
  | .bool b => some (.bl b)
  | .int i _ => some (.int i)
  | .str x _ => some (.str x)
  | .bytes b _ => some (.byt b)
  | .float b _ => some (.flt b)
  | .ref a => some (.ref a)
  | .type n => some (.ty n)
  | _ => none
theorem RelV.abs {x : V} {u : Value} (r : RelV x u) : absV u = some x := by
  cases x with
  | non => cases r; rfl
  | bl _ => cases r; rfl
  | int _ => obtain ⟨t, rfl⟩ := r; rfl
  | str _ => obtain ⟨t, rfl⟩ := r; rfl
  | byt _ => obtain ⟨t, rfl⟩ := r; rfl
  | flt _ => obtain ⟨t, rfl⟩ := r; rfl
  | ref _ => cases r; rfl
  | ty _ => cases r; rfl
theorem RelV.inj {x y : V} {u : Value} (r : RelV x u) (q : RelV y u) : x = y := Option.some.inj (r.abs.symm.trans q.abs)
theorem Vals.inj : ∀ {xs ys : List V} {us : List Value}, Vals xs us → Vals ys us → xs = ys
  | _, _, _, .nil, .nil => rfl
  | _, _, _, .cons r t, .cons r' t' => by rw [r.inj r', Vals.inj t t']
section
variable {X : Cx} {pins : List (Addr × Obj)} {σ : St} {H : Hp} {s : Shared} {a : Addr} {xs ys : List V}
theorem SqL.of {K : PySem.W.Frag} (h : H a = some (.lst xs)) : SqL K H a xs := .inl (.inl h)
theorem SqT.of {K : PySem.W.Frag} (h : H a = some (.tup xs)) : SqT K H a xs := .inl (.inl h)
theorem Inv.list (I : Inv X pins σ H s) (h : SqL X.K H a xs) : ∃ its : List Value, Vals xs its ∧ PlainL s.heap a its.toArray ∧ xs.length ≤ sizeLine := by
  rcases h with h | ⟨o, its, n, hk, hc, hd, hs, hz, r⟩
  · obtain ⟨z, its, n, r, e⟩ := h.ok I.hok
    exact ⟨its, r, ⟨_, n, e, rfl, rfl, rfl⟩, z⟩
  · refine ⟨its.toList, r, ⟨o, n, I.kIn a o hk, hc, hd, by simpa using hs⟩, ?_⟩
    have e := r.length
    simp only [Array.length_toList] at e
    omega
theorem Inv.tuple (I : Inv X pins σ H s) (h : SqT X.K H a xs) : ∃ its : List Value, Vals xs its ∧ IsTup s.heap a its.toArray ∧ xs.length ≤ sizeLine := by
  rcases h with h | ⟨o, its, n, hk, hc, hs, hz, r⟩
  · obtain ⟨z, its, r, p⟩ := h.ok I.hok
    exact ⟨its, r, p, z⟩
  · refine ⟨its.toList, r, ⟨o, I.kIn a o hk, hc, n, by simpa using hs⟩, ?_⟩
    have e := r.length
    simp only [Array.length_toList] at e
    omega
theorem Inv.list_inj (I : Inv X pins σ H s) (h : SqL X.K H a xs) (h' : SqL X.K H a ys) : xs = ys := by
  obtain ⟨its, r, ⟨o, n, e, _, _, d⟩, _⟩ := I.list h
  obtain ⟨its', r', ⟨o', n', e', _, _, d'⟩, _⟩ := I.list h'
  rw [e] at e'; cases e'
  rw [d] at d'
  injection d' with d1 _
  have : its = its' := by simpa using congrArg Array.toList d1
  subst this
  exact r.inj r'
end

/-! ### another wish about exceptions -/
abbrev Cx.wish (X : Cx) (E : Value → Shared → Prop) : Cx := { X with xe := E }
/-- no exception leaves -/
abbrev Cx.nox (X : Cx) : Cx := X.wish fun _ _ => False
theorem Cx.Ok.wish {X : Cx} (ok : X.Ok) (E : Value → Shared → Prop) : (X.wish E).Ok :=
  ⟨ok.mod, ok.kind, ok.glob, ok.blt, ok.above, ok.inj, ok.has, ok.cab, ok.hd, ok.frames, ok.stk, ok.exf, ok.bs, ok.bsz, ok.noex, ok.exfs, ok.funs, ok.frf⟩
theorem Cx.Ok.unwish {X : Cx} {E : Value → Shared → Prop} (ok : (X.wish E).Ok) : X.Ok :=
  ⟨ok.mod, ok.kind, ok.glob, ok.blt, ok.above, ok.inj, ok.has, ok.cab, ok.hd, ok.frames, ok.stk, ok.exf, ok.bs, ok.bsz, ok.noex, ok.exfs, ok.funs, ok.frf⟩
section
variable {X : Cx} {pins : List (Addr × Obj)} {σ : St} {H : Hp} {s : Shared} {E : Value → Shared → Prop}
theorem Inv.wish (I : Inv X pins σ H s) (E : Value → Shared → Prop) : Inv (X.wish E) pins σ H s := ⟨I.ok.wish E, I.os, I.bare, I.base, I.loc, I.cell, I.free, I.freeC, I.pin, I.hok, I.len⟩
theorem Inv.unwish (I : Inv (X.wish E) pins σ H s) : Inv X pins σ H s := ⟨I.ok.unwish, I.os, I.bare, I.base, I.loc, I.cell, I.free, I.freeC, I.pin, I.hok, I.len⟩
theorem SP.unwish {D : Ends} {f : Flow} {s' : Shared} (h : SP (X.wish E) pins D f s') : SP X pins D f s' := by
  cases f with
  | next => obtain ⟨σ', H', I, q⟩ := h; exact ⟨σ', H', I.unwish, q⟩
  | brk => obtain ⟨σ', H', I, q⟩ := h; exact ⟨σ', H', I.unwish, q⟩
  | cont => obtain ⟨σ', H', I, q⟩ := h; exact ⟨σ', H', I.unwish, q⟩
  | ret u => obtain ⟨v, σ', H', I, r, q⟩ := h; exact ⟨v, σ', H', I.unwish, r, q⟩
theorem PSs.nox {st : List Stmt} {t : TS} (h : PSs X.nox st t) : PSs X st t := fun pins s σ H D I hw =>
  wpAny_mono (h pins s σ H D (I.wish _) hw) (fun _ _ q => q.unwish) fun _ _ z => False.elim z
end

/-! ### blocks and small statements -/
section
variable {X : Cx} {st : Stmt} {rest : List Stmt} {t u : TS} {e : Expr} {te : TE} {pos : Pos}
def tNext : TS := fun D σ H => D.nx σ H
def tSeq (t u : TS) : TS := fun D σ H => t { D with nx := u D } σ H
theorem pss_nil : PSs X [] tNext := fun _ _ σ H _ I h => wpAny_execs_nil ⟨σ, H, I, h⟩
theorem pss_cons (h1 : PS X st t) (h2 : PSs X rest u) : PSs X (st :: rest) (tSeq t u) := by
  intro pins s σ H D I h
  refine wpAny_execs_cons (thn (h1 pins s σ H { D with nx := u D } I h) fun f s1 q => ?_)
  cases f with
  | next =>
    obtain ⟨σ', H', I', q⟩ := q
    exact h2 pins s1 σ' H' D I' q
  | ret v => exact q
  | brk => exact q
  | cont => exact q
theorem pss_one (h1 : PS X st t) : PSs X [st] t := by
  intro pins s σ H D I h
  refine wpAny_execs_cons (thn (h1 pins s σ H D I h) fun f s1 q => ?_)
  cases f with
  | next => exact wpAny_execs_nil q
  | ret v => exact q
  | brk => exact q
  | cont => exact q
def tRet (te : TE) : TS := fun D σ H => te σ H D.rt
theorem ps_ret (he : PE X e te) : PS X (.Return (some e) pos) (tRet te) := by
  intro pins s σ H D I h
  exact wpAny_Return_some (thn (he pins s σ H _ I h) fun v s1 ⟨x, H1, I1, r1, q1⟩ => ⟨x, σ, H1, I1, r1, q1⟩)
def tIfS (c : TT) (t u : TS) : TS := fun D σ H => c σ H fun b H1 => if b = true then t D σ H1 else u D σ H1
theorem ps_if {c : Expr} {a b : List Stmt} {tc : TT} (hc : PT X c tc) (ha : PSs X a t) (hb : PSs X b u) : PS X (.If c a b pos) (tIfS tc t u) := by
  intro pins s σ H D I h
  refine wpAny_If (thn (hc pins s σ H _ I h) fun d s1 ⟨H1, I1, q1⟩ => ?_)
  cases d with
  | true => exact ha pins s1 σ H1 D I1 q1
  | false => exact hb pins s1 σ H1 D I1 q1
/-- code that the proof never comes to -/
def tNever : TS := fun _ _ _ => False
theorem pss_never {sts : List Stmt} : PSs X sts tNever := fun _ _ _ _ _ _ h => h.elim
end

/-! ### targets -/
abbrev TG := V → St → Hp → (St → Hp → Prop) → Prop
abbrev TGs := List V → St → Hp → (St → Hp → Prop) → Prop
def PG (X : Cx) (target : Expr) (t : TG) : Prop :=
  ∀ (pins : List (Addr × Obj)) (s : Shared) (σ : St) (H : Hp) (v : V) (u : Value) (Q : St → Hp → Prop), Inv X pins σ H s → RelV v u → t v σ H Q →
    wpAny (model X.prog X.w) X.A (assign target X.env u) (fun _ s' => ∃ σ' H', Inv X pins σ' H' s' ∧ Q σ' H') X.xe s
/-- several targets, one after another -/
def PGs (X : Cx) (ts : List Expr) (t : TGs) : Prop :=
  ∀ (pins : List (Addr × Obj)) (s : Shared) (σ : St) (H : Hp) (vs : List V) (us : List Value) (Q : St → Hp → Prop), Inv X pins σ H s → Vals vs us → t vs σ H Q →
    wpAny (model X.prog X.w) X.A (assignInOrder ((assignEach ts X.env).map (·.2)) us) (fun _ s' => ∃ σ' H', Inv X pins σ' H' s' ∧ Q σ' H') X.xe s
section
variable {X : Cx} {pos : Pos}
def gName (i : Nat) : TG := fun v σ H Q => Q (σ.set i (some v)) H
theorem pg_name {i : Nat} {x : Str} (hN : X.N.Nodup) (hi : X.N[i]? = some x) (hx : Loc X.env.scope x) (hf : X.fn x = true ∨ X.env.scope.names.lookup x = some .local := by first | exact .inl rfl | exact .inr rfl | assumption) : PG X (.Name x pos) (gName i) := by
  intro pins s σ H v u Q I r h
  exact wpAny_assign_Name (store_ok I hN hi hx r (fun s' I' => ⟨_, H, I', h⟩) hf)
def gNil : TGs := fun vs σ H Q => vs = [] ∧ Q σ H
def gCons (t : TG) (u : TGs) : TGs := fun vs σ H Q => ∃ v r, vs = v :: r ∧ t v σ H fun σ' H' => u r σ' H' Q
theorem pgs_nil : PGs X [] gNil := by
  intro pins s σ H vs us Q I r h
  obtain ⟨e, h⟩ := h
  subst e
  cases r
  exact assignInOrder_nil ⟨σ, H, I, h⟩
theorem pgs_cons {e : Expr} {es : List Expr} {t : TG} {u : TGs} (h1 : PG X e t) (h2 : PGs X es u)
    (hs : (assignEach (e :: es) X.env).map (·.2) = assign e X.env :: (assignEach es X.env).map (·.2) := by rfl) : PGs X (e :: es) (gCons t u) := by
  intro pins s σ H vs us Q I r h
  obtain ⟨v, vr, e1, h⟩ := h
  subst e1
  cases r with
  | cons r rr =>
    rw [hs]
    refine assignInOrder_cons (thn (h1 pins s σ H _ _ _ I r h) fun _ s1 ⟨σ1, H1, I1, q1⟩ => ?_)
    exact h2 pins s1 σ1 H1 _ _ Q I1 rr q1
/-- (a, b, ..) = a tuple of that length -/
def gTup (K : PySem.W.Frag) (n : Nat) (t : TGs) : TG := fun v σ H Q => ∃ a xs, v = .ref a ∧ SqT K H a xs ∧ xs.length = n ∧ t xs σ H Q
theorem pg_tup {es : List Expr} {k : Nat} {t : TGs} {n : Nat} (hc : X.calm = true) (h : PGs X es t)
    (hn : (assignEach es X.env).length = n := by rfl) (hst : (assignEach es X.env).findIdx? (·.1) = none := by rfl) : PG X (.Tuple es k pos) (gTup X.K n t) := by
  intro pins s σ H v u Q I r hw
  obtain ⟨a, xs, e1, hq, hl, hw⟩ := hw
  subst e1
  cases r
  obtain ⟨its, rv, ht, hz⟩ := I.tuple hq
  refine assign_Tuple_tuple (I.ok.hd hc) ht (by simp [hn, ← hl, rv.length]) hst fun h' hx => ?_
  have I1 : Inv X pins σ H { s with heap := h' } := I.kept (t' := s.toks) fun b o e => hx b o (Nat.ne_of_lt (Heap.lt_size e)) e
  exact h pins _ σ H xs _ Q I1 (by simpa using rv) hw
/-- target = value -/
def tAsg (te : TE) (g : TG) : TS := fun D σ H => te σ H fun x H1 => g x σ H1 D.nx
/-- name = value -/
theorem ps_set {i : Nat} {x : Str} {e : Expr} {te : TE} {pos' : Pos} (hN : X.N.Nodup) (hi : X.N[i]? = some x) (hx : Loc X.env.scope x) (he : PE X e te) (hs : swapsWith e (some (.Name x pos')) pos.line X.env = pure false := by rfl) (hf : X.fn x = true ∨ X.env.scope.names.lookup x = some .local := by first | exact .inl rfl | exact .inr rfl | assumption) :
    PS X (.Assign [.Name x pos'] e pos) (tAsg te (gName i)) := by
  intro pins s σ H D I h
  refine wpAny_Assign_Name (thn (he pins s σ H _ I h) fun v s1 ⟨y, H1, I1, r1, q1⟩ => ?_) hs
  exact store_ok I1 hN hi hx r1 (fun s2 I2 => ⟨_, H1, I2, q1⟩) hf
end

/-! ### while -/
section
variable {X : Cx} {pos : Pos}
end

/-! ### what a loop or a comprehension walks -/
/-- at turn i: it yields x (the heap may grow), or it stops -/
structure It where
  go : Nat → Hp → Prop
  yld : Nat → Hp → V → Hp → Prop
  stop : Nat → Hp → Prop
/-- the iterator's own objects may turn: they are not the frame's, not pinned, younger than the entry (or a comprehension's own) -/
def FpOk (X : Cx) (pins : List (Addr × Obj)) (H : Hp) (b : Addr) : Prop :=
  H b = none ∧ b ≠ X.env.locals ∧ b ∉ X.fs ∧ (b ∈ X.ex ∨ X.s_0.heap.objs.size ≤ b) ∧ (∀ x c, X.env.cells.lookup x = some c → c ≠ b) ∧ ∀ p ∈ X.pn ++ pins, p.1 ≠ b
theorem Inv.fpOk {X : Cx} {pins : List (Addr × Obj)} {σ : St} {H H' : Hp} {s : Shared} {b : Addr} (I : Inv X pins σ H s) (hb : s.heap.objs.size ≤ b) (hn : H' b = none) : FpOk X pins H' b := by
  refine ⟨hn, Nat.ne_of_gt (Nat.lt_of_lt_of_le I.lt hb), I.nofs hb, .inr (Nat.le_trans I.sz hb), fun x c e z => ?_, fun p hp z => ?_⟩
  · obtain ⟨v, q⟩ := I.cell x c e
    exact absurd (Nat.lt_of_lt_of_le q.lt (by rw [z]; exact hb)) (Nat.lt_irrefl _)
  · exact absurd (Nat.lt_of_lt_of_le (Heap.lt_size (I.pin p hp).1) (by rw [z]; exact hb)) (Nat.lt_irrefl _)
structure Turn (P : Program) (w : World) (K : PySem.W.Frag) (tg : Expr) (J : It) (fp : List Addr) (it : Addr) (tn : Nat → Heap → Prop) : Prop where
  mem : it ∈ fp
  obj : ∀ i h, tn i h → ∀ b ∈ fp, ∃ o, h.get? b = some o ∧ ∀ v, o.data ≠ .cell v
  keep : ∀ i h h', tn i h → (∀ b ∈ fp, ∀ o, h.get? b = some o → h'.get? b = some o) → tn i h'
  item : ∀ (X : Cx), X.prog = P → X.w = w → X.K = K → X.calm = true → ∀ (i : Nat) (pins : List (Addr × Obj)) (s : Shared) (σ : St) (H : Hp) (E : Value → Shared → Prop), Inv X pins σ H s → (∀ b ∈ fp, FpOk X pins H b) → tn i s.heap → J.go i H →
    wpAny (model P w) X.A (pyNext (.ref it)) (fun r s1 => ∃ u, r = some u ∧
      wpAny (model P w) X.A (letOwnedTupleGo tg (.ref it) u) (fun _ s2 => ∃ x H', Inv X pins σ H' s2 ∧ RelV x u ∧ J.yld i H x H' ∧ tn (i + 1) s2.heap ∧ ∀ b ∈ fp, H' b = none) E s1) E s
  done : ∀ (X : Cx), X.prog = P → X.w = w → X.K = K → X.calm = true → ∀ (i : Nat) (pins : List (Addr × Obj)) (s : Shared) (σ : St) (H : Hp) (E : Value → Shared → Prop), Inv X pins σ H s → (∀ b ∈ fp, FpOk X pins H b) → tn i s.heap → J.stop i H →
    wpAny (model P w) X.A (pyNext (.ref it)) (fun r s1 => r = none ∧ Inv X pins σ H s1) E s
  self : ∀ (A : Around) (i : Nat) (s : Shared) (Q : Value → Shared → Prop) (E : Value → Shared → Prop), tn i s.heap → Q (.ref it) s → wpAny (model P w) A (pyIter (.ref it)) Q E s
abbrev TI := St → Hp → (It → Hp → Prop) → Prop
/-- an iterator has come -/
def PIE (X : Cx) (pins : List (Addr × Obj)) (σ : St) (tg : Expr) (R : It → Hp → Prop) (itv : Value) (s2 : Shared) : Prop :=
  ∃ (it : Addr) (fp : List Addr) (tn : Nat → Heap → Prop) (J : It) (H' : Hp), itv = .ref it ∧ Inv X pins σ H' s2 ∧ Turn X.prog X.w X.K tg J fp it tn ∧ tn 0 s2.heap ∧ (∀ b ∈ fp, FpOk X pins H' b) ∧ R J H'
def PI (X : Cx) (tg iter : Expr) (wi : TI) : Prop :=
  ∀ (pins : List (Addr × Obj)) (s : Shared) (σ : St) (H : Hp) (R : It → Hp → Prop), Inv X pins σ H s → wi σ H R →
    wpAny (model X.prog X.w) X.A (eval iter X.env) (fun v s1 => wpAny (model X.prog X.w) X.A (pyIter v) (PIE X pins σ tg R) X.xe s1) X.xe s

/-- the step ahead of the store is nothing for an iterator that keeps no tuple -/
theorem go_of {M : Model} {A : Around} {E : Value → Shared → Prop} {s : Shared} {tg : Expr} {it : Addr} {u : Value} {o : Obj} {n : String} {vs : Array Value} {Q : Unit → Shared → Prop} (ho : s.heap.get? it = some o) (hc : o.cls = .type n) (hd : o.data = .fields vs)
    (hn : ["enumerate", "zip", "dict_itemiterator", "dict_reverseitemiterator", "odict_iterator", "itertools.zip_longest", "itertools.pairwise"].contains n = false) (hQ : Q () s) : wpAny M A (letOwnedTupleGo tg (.ref it) u) Q E s := by
  unfold letOwnedTupleGo
  cases tg <;> first
    | exact wpAny_pure hQ
    | (cases u <;> first
        | exact wpAny_pure hQ
        | (refine wpAny_bind (wpAny_load ho ?_)
           rw [hc, hd]
           show wpAny M A (if (["enumerate", "zip", "dict_itemiterator", "dict_reverseitemiterator", "odict_iterator", "itertools.zip_longest", "itertools.pairwise"].contains n && vs[0]? == some (rawInt _)) = true then _ else _) Q E s
           rw [if_neg (by intro h; rw [hn, Bool.false_and] at h; cases h)]
           exact wpAny_pure hQ))

/-- the list at a, as it stands at each turn (a loop may append to it) -/
def Itl (K : PySem.W.Frag) (a : Addr) : It :=
  ⟨fun i H => ∃ xs x, SqL K H a xs ∧ xs[i]? = some x, fun i H x H' => H' = H ∧ ∀ xs, SqL K H a xs → xs[i]? = some x, fun i H => ∃ xs, SqL K H a xs ∧ xs.length ≤ i⟩
/-- lo, lo + 1, .. (n of them) -/
def Itr (lo : Int) (n : Nat) : It := ⟨fun i _ => i < n, fun i H x H' => H' = H ∧ x = .int (lo + i), fun i _ => n ≤ i⟩
theorem turn_list {P : Program} {w : World} {K : PySem.W.Frag} {tg : Expr} (a it : Addr) : Turn P w K tg (Itl K a) [it] it (fun i h => h.IsListIter it a i) where
  mem := by simp
  obj := fun i h st b hb => by
    have e : b = it := by simpa using hb
    subst e
    obtain ⟨o, e, c, d⟩ := st
    exact ⟨o, e, fun v z => by rw [d] at z; cases z⟩
  keep := fun i h h' st k => st.at fun o e => k it (by simp) o e
  item := by
    intro X hP hw hK hc i pins s σ H E I hf st hg
    subst hP hw hK
    obtain ⟨xs, x, hq, hx⟩ := hg
    obtain ⟨its, rv, p, hz⟩ := I.list hq
    obtain ⟨u, hu, ru⟩ := rv.get hx
    obtain ⟨f0, f1, f2, f3, f4, f5⟩ := hf it (by simp)
    refine wpAny_pyNext_list_item st p.isList (x := u) (by simpa using hu) fun h' st' sb => ?_
    have I1 : Inv X pins σ H { s with heap := h' } := I.turned (t' := s.toks) (fun b o hb e => (sb.2 b hb).trans e) f0 f1 f3 f4 f5
    obtain ⟨o, e, c, d⟩ := id st'
    exact ⟨u, rfl, go_of (s := { s with heap := h' }) e c d (by decide) ⟨x, H, I1, ru, ⟨rfl, fun ys hy => by rw [I.list_inj hy hq]; exact hx⟩, st', fun b hb => (hf b hb).1⟩⟩
  done := by
    intro X hP hw hK hc i pins s σ H E I hf st hg
    subst hP hw hK
    obtain ⟨xs, hq, hx⟩ := hg
    obtain ⟨its, rv, p, hz⟩ := I.list hq
    obtain ⟨f0, f1, f2, f3, f4, f5⟩ := hf it (by simp)
    have hl := rv.length
    exact wpAny_pyNext_list_end (I.ok.hd hc) st p.isList (by simp; omega) fun h' eb => ⟨rfl, I.turned (t' := s.toks) (fun b o hb e => eb b o hb e) f0 f1 f3 f4 f5⟩
  self := fun _ _ _ _ _ st h => wpAny_pyIter_listiter st h
theorem turn_range {P : Program} {w : World} {K : PySem.W.Frag} {tg : Expr} (it : Addr) (lo : Int) (n : Nat) : Turn P w K tg (Itr lo n) [it] it (fun i h => IsRangeIter h it (lo + (i : Nat) * 1) ((n : Int) - (i : Nat)) 1) where
  mem := by simp
  obj := fun i h st b hb => by
    have e : b = it := by simpa using hb
    subst e
    exact ⟨_, st, fun v z => by
      have z' : Data.fields _ = Data.cell v := z
      cases z'⟩
  keep := fun i h h' st k => k it (by simp) _ st
  item := by
    intro X hP hw hK hc i pins s σ H E I hf st hg
    subst hP hw hK
    obtain ⟨f0, f1, f2, f3, f4, f5⟩ := hf it (by simp)
    have W := Walks.range (prog := X.prog) (w := X.w) (I.ok.hd hc) it lo 1 n
    refine W.item i s _ _ hg st fun v h' tk hv st' kk => ?_
    obtain ⟨t, rfl⟩ := hv
    have I1 : Inv X pins σ H { s with heap := h', toks := tk } := I.turned (fun b o hb e => kk b o (by simpa using hb) e) f0 f1 f3 f4 f5
    refine ⟨_, rfl, go_of (s := { s with heap := h', toks := tk }) (n := "range_iterator") st' rfl rfl (by decide) ⟨.int (lo + i), H, I1, ⟨t, ?_⟩, ⟨rfl, rfl⟩, st', fun b hb => (hf b hb).1⟩⟩
    rw [Int.mul_one]
  done := by
    intro X hP hw hK hc i pins s σ H E I hf st hg
    subst hP hw hK
    obtain ⟨f0, f1, f2, f3, f4, f5⟩ := hf it (by simp)
    exact wpAny_pyNext_range_end (I.ok.hd hc) st (by have : n ≤ i := hg; omega) fun h' eb => ⟨rfl, I.turned (t' := s.toks) (fun b o hb e => eb b o hb e) f0 f1 f3 f4 f5⟩
  self := fun _ _ _ _ _ st h => wpAny_pyIter_rangeiter st h
end L2

namespace L2
open PySem PySem.Spec PyProof.Rows
section
variable {X : Cx} {tg : Expr}
def iList (K : PySem.W.Frag) (tl : TE) : TI := fun σ H R => tl σ H fun x H1 => ∃ a, x = .ref a ∧ (∃ xs, SqL K H1 a xs) ∧ R (Itl K a) H1
theorem pi_list {l : Expr} {tl : TE} (hl : PE X l tl) : PI X tg l (iList X.K tl) := by
  intro pins s σ H R I h
  refine thn (hl pins s σ H _ I h) fun v s1 ⟨x, H1, I1, r1, q1⟩ => ?_
  obtain ⟨a, e, ⟨xs, hq⟩, q⟩ := q1
  subst e
  cases r1
  obtain ⟨its, rv, p, hz⟩ := I1.list hq
  refine wpAny_pyIter_list p.isList ?_
  refine ⟨s1.heap.objs.size, [s1.heap.objs.size], _, _, H1, rfl, I1.kept (t' := s1.toks) fun b o e => Heap.get?_push_of_some _ e, turn_list a _, ⟨_, Heap.get?_push_size _ rfl, rfl, rfl⟩, fun b hb => ?_, q⟩
  have e : b = s1.heap.objs.size := by simpa using hb
  subst e
  exact I1.fpOk (Nat.le_refl _) (I1.hok.fresh (Nat.le_refl _))
/-- a range object just made, walked -/
theorem range_it {pins : List (Addr × Obj)} {σ : St} {H : Hp} {s : Shared} {R : It → Hp → Prop} {E : Value → Shared → Prop} {lo hi : Int} {t u v : Tok} {tk : Nat} (I : Inv X pins σ H s) (h1 : -(2 ^ 62) ≤ lo) (h2 : lo < 2 ^ 62) (h3 : -(2 ^ 62) ≤ hi) (h4 : hi < 2 ^ 62)
    (q : R (Itr lo (hi - lo).toNat) H) : wpAny (model X.prog X.w) X.A (pyIter (.ref s.heap.objs.size)) (PIE X pins σ tg R) E { s with heap := s.heap.push { cls := .type "range", data := .fields #[.int lo t, .int hi u, .int 1 v] }, toks := tk } := by
  refine wpAny_pyIter_range (IsRange.new ..) (small_one h1 h2 h3 h4) ?_
  have I1 : Inv X pins σ H { s with heap := s.heap.push { cls := .type "range", data := .fields #[.int lo t, .int hi u, .int 1 v] }, toks := tk } := I.kept fun b o e => Heap.get?_push_of_some _ e
  refine ⟨(s.heap.push { cls := .type "range", data := .fields #[.int lo t, .int hi u, .int 1 v] }).objs.size, [(s.heap.push { cls := .type "range", data := .fields #[.int lo t, .int hi u, .int 1 v] }).objs.size], _, _, H, rfl,
    I1.kept (t' := tk) fun b o e => Heap.get?_push_of_some _ e, turn_range _ lo (hi - lo).toNat, ?_, fun b hb => ?_, q⟩
  · have e1 : lo + ((0 : Nat) : Int) * 1 = lo := by simp
    have e2 : (((hi - lo).toNat : Nat) : Int) - ((0 : Nat) : Int) = Builtin.Range.rangeSize lo hi 1 := by rw [rangeSize_one]; split <;> omega
    show IsRangeIter _ _ (lo + ((0 : Nat) : Int) * 1) ((((hi - lo).toNat : Nat) : Int) - ((0 : Nat) : Int)) 1
    rw [e1, e2]
    exact Heap.get?_push_size _ rfl
  · have e : b = (s.heap.push { cls := .type "range", data := .fields #[.int lo t, .int hi u, .int 1 v] }).objs.size := by simpa using hb
    subst e
    exact I1.fpOk (Nat.le_refl _) (I1.hok.fresh (Nat.le_refl _))
def iRng2 (ta : TA) : TI := fun σ H R => ta σ H fun vs H1 => ∃ i j : Int, vs = [.int i, .int j] ∧ (-(2 ^ 62) ≤ i ∧ i < 2 ^ 62 ∧ -(2 ^ 62) ≤ j ∧ j < 2 ^ 62) ∧ R (Itr i (j - i).toNat) H1
theorem pi_range2 {a b : Expr} {ta : TA} {p pos : Pos} (hg : Gl X "range") (hm : X.mg "range" = none) (ha : PA X [a, b] ta) (hs : starEach [a, b] X.env = [(false, eval a X.env), (false, eval b X.env)] := by rfl) (hs2 : starEach [b] X.env = [(false, eval b X.env)] := by rfl) :
    PI X tg (.Call (.Name "range" p) [a, b] [] pos) (iRng2 ta) := by
  intro pins s σ H R I h
  refine Call_ (ld_blt I hg hm boot_range (PyProof.Rows.callWith_type1 (thn (ha pos pins s σ H _ I h) fun us s1 ⟨vs, H1, I1, r1, q1⟩ => ?_) (by rw [hs, hs2]) (by rw [hs2]; rfl)))
  obtain ⟨i, j, e, ⟨q1, q2, q3, q4⟩, q⟩ := q1
  subst e
  cases r1 with
  | cons r rr =>
    cases rr with
    | cons r' rr =>
      cases rr
      obtain ⟨t, rfl⟩ := r
      obtain ⟨t', rfl⟩ := r'
      exact call_range_2 (range_it I1 q1 q2 q3 q4 q)

/-! ### for -/
/-- W: the invariant by the turn and a measure; N: what the body is to reach -/
def tFor (wi : TI) (g : TG) (tb : TS) : TS := fun D σ H => wi σ H fun J H1 => ∃ W : Nat → Nat → St → Hp → Prop, (∃ m, W 0 m σ H1) ∧ ∀ i m σ H, W i m σ H →
  (J.stop i H ∧ D.nx σ H) ∨ (J.go i H ∧ ∃ N : St → Hp → Prop, (∀ σ' H', N σ' H' → ∃ m', m' < m ∧ W (i + 1) m' σ' H') ∧ ∀ x H', J.yld i H x H' → g x σ H' fun σ2 H2 => tb { D with nx := N, ct := N, bk := D.nx } σ2 H2)
/-- the records at fp as they stand -/
def pinsAt (fp : List Addr) (h : Heap) : List (Addr × Obj) := fp.filterMap fun b => (h.get? b).map fun o => (b, o)
theorem mem_pinsAt {fp : List Addr} {h : Heap} {b : Addr} {o : Obj} (hb : b ∈ fp) (e : h.get? b = some o) : (b, o) ∈ pinsAt fp h := List.mem_filterMap.mpr ⟨b, hb, by rw [e]; rfl⟩
theorem of_pinsAt {fp : List Addr} {h : Heap} {p : Addr × Obj} (hp : p ∈ pinsAt fp h) : p.1 ∈ fp ∧ h.get? p.1 = some p.2 := by
  obtain ⟨b, hb, e⟩ := List.mem_filterMap.mp hp
  cases q : h.get? b with
  | none => rw [q] at e; cases e
  | some o =>
    rw [q] at e
    have e' : (b, o) = p := Option.some.inj e
    subst e'
    exact ⟨hb, q⟩
theorem Inv.pinned {pins : List (Addr × Obj)} {σ : St} {H : Hp} {s : Shared} {fp : List Addr} (I : Inv X pins σ H s) (hf : ∀ b ∈ fp, FpOk X pins H b) (ho : ∀ b ∈ fp, ∃ o, s.heap.get? b = some o ∧ ∀ v, o.data ≠ .cell v) : Inv X (pins ++ pinsAt fp s.heap) σ H s :=
  I.pins_of fun p hp => (List.mem_append.mp hp).elim (fun z => I.pin p (List.mem_append_right _ z)) fun z => by
    obtain ⟨hb, e⟩ := of_pinsAt z
    obtain ⟨f0, f1, f2, _⟩ := hf p.1 hb
    obtain ⟨o, e', d⟩ := ho p.1 hb
    rw [e] at e'; cases e'
    exact ⟨e, f0, f1, f2, d⟩
theorem Inv.unpinned {pins pl : List (Addr × Obj)} {σ : St} {H : Hp} {s : Shared} (I : Inv X (pins ++ pl) σ H s) : Inv X pins σ H s := I.pins_of fun p hp => I.pin p (List.mem_append_right _ (List.mem_append_left _ hp))
theorem ps_for {iter : Expr} {body : List Stmt} {wi : TI} {g : TG} {tb : TS} {pos : Pos} (hp : PassesOwn (model X.prog X.w) X.A X.env X.xe) (hc : X.calm = true) (hi : PI X tg iter wi) (hg : PG X tg g) (hb : PSs X body tb)
    (hs : ∀ x, foldedSetIterable iter X.env x = pure x := by intro _; rfl) : PS X (.For tg iter body [] pos) (tFor wi g tb) := by
  intro pins s σ H D I h
  refine wpAny_For (thn (hi pins s σ H _ I h) fun v s1 h1 => thn h1 fun itv s2 h2 => ?_) hs
  obtain ⟨it, fp, tn, J, H2, e, I2, T, st2, f2, W, ⟨m0, w0⟩, turn⟩ := h2
  subst e
  -- what stays true of the iterator's objects through the loop
  have stat : ∀ {H' : Hp}, (∀ b ∈ fp, H' b = none) → ∀ b ∈ fp, FpOk X pins H' b := fun hn b hb => ⟨hn b hb, (f2 b hb).2⟩
  refine codeAny_forLoop_any (fun n s' => ∃ i σ' H', Inv X pins σ' H' s' ∧ tn i s'.heap ∧ (∀ b ∈ fp, H' b = none) ∧ W i n σ' H') ?_ m0 ⟨0, σ, H2, I2, st2, fun b hb => (f2 b hb).1, w0⟩
  rintro n s3 ⟨i, σ3, H3, I3, st3, fr3, w3⟩
  rcases turn i n σ3 H3 w3 with ⟨stop, qn⟩ | ⟨go, N, hN, step⟩
  · refine wpAny_passesOwn hp (thn (T.done X rfl rfl rfl hc i pins s3 σ3 H3 X.xe I3 (stat fr3) st3 stop) fun r s4 ⟨hr, I4⟩ => ?_)
    subst hr
    exact wpAny_execs_nil ⟨σ3, H3, I4, qn⟩
  · refine wpAny_passesOwn hp (thn (T.item X rfl rfl rfl hc i pins s3 σ3 H3 X.xe I3 (stat fr3) st3 go) fun r s4 ⟨u, hr, h4⟩ => ?_)
    subst hr
    refine wpAny_passesOwn hp (thn h4 fun _ s5 ⟨x, H5, I5, r5, y5, st5, fr5⟩ => ?_)
    have I5' := I5.pinned (stat fr5) (T.obj _ _ st5)
    refine wpAny_passesOwn hp (thn (hg _ s5 σ3 H5 x u _ I5' r5 (step x H5 y5)) fun _ s6 ⟨σ6, H6, I6, q6⟩ => ?_)
    refine wpAny_passesOwn hp (thn (hb _ s6 σ6 H6 _ I6 q6) fun f s7 q7 => ?_)
    have again : ∀ {σ7 : St} {H7 : Hp}, Inv X (pins ++ pinsAt fp s5.heap) σ7 H7 s7 → N σ7 H7 → ∃ m, m < n ∧ ∃ i σ' H', Inv X pins σ' H' s7 ∧ tn i s7.heap ∧ (∀ b ∈ fp, H' b = none) ∧ W i m σ' H' := fun {σ7 H7} I7 n7 => by
      obtain ⟨m', hm, w7⟩ := hN σ7 H7 n7
      refine ⟨m', hm, i + 1, σ7, H7, I7.unpinned, T.keep _ _ _ st5 fun b hb o e => (I7.pin (b, o) (List.mem_append_right _ (List.mem_append_right _ (mem_pinsAt hb e)))).1, fun b hb => ?_, w7⟩
      obtain ⟨o, e, d⟩ := T.obj _ _ st5 b hb
      exact (I7.pin (b, o) (List.mem_append_right _ (List.mem_append_right _ (mem_pinsAt hb e)))).2.1
    cases f with
    | next => obtain ⟨σ7, H7, I7, n7⟩ := q7; exact again I7 n7
    | cont => obtain ⟨σ7, H7, I7, n7⟩ := q7; exact again I7 n7
    | brk => obtain ⟨σ7, H7, I7, q7⟩ := q7; exact ⟨σ7, H7, I7.unpinned, q7⟩
    | ret v => obtain ⟨x7, σ7, H7, I7, r7, q7⟩ := q7; exact ⟨x7, σ7, H7, I7.unpinned, r7, q7⟩
end

/-! ### the forms one uses -/
/-- over a list that the body leaves as it is -/
theorem for_list {K : PySem.W.Frag} {a : Addr} {xs : List V} {g : TG} {tb : TS} {D : Ends} {σ : St} {H : Hp} (Pv : Nat → St → Hp → Prop) (h0 : Pv 0 σ H) (hl : ∀ i σ H, i ≤ xs.length → Pv i σ H → SqL K H a xs)
    (hs : ∀ i x σ H, xs[i]? = some x → Pv i σ H → g x σ H fun σ2 H2 => tb { D with nx := Pv (i + 1), ct := Pv (i + 1), bk := D.nx } σ2 H2) (hd : ∀ σ H, Pv xs.length σ H → D.nx σ H) :
    ∃ W : Nat → Nat → St → Hp → Prop, (∃ m, W 0 m σ H) ∧ ∀ i m σ H, W i m σ H →
      ((Itl K a).stop i H ∧ D.nx σ H) ∨ ((Itl K a).go i H ∧ ∃ N : St → Hp → Prop, (∀ σ' H', N σ' H' → ∃ m', m' < m ∧ W (i + 1) m' σ' H') ∧ ∀ x H', (Itl K a).yld i H x H' → g x σ H' fun σ2 H2 => tb { D with nx := N, ct := N, bk := D.nx } σ2 H2) := by
  refine ⟨fun i m σ H => m = xs.length - i ∧ i ≤ xs.length ∧ Pv i σ H, ⟨xs.length, by simp, Nat.zero_le _, h0⟩, ?_⟩
  rintro i m σ H ⟨rfl, hi, p⟩
  have q := hl i σ H hi p
  by_cases hlt : i < xs.length
  · refine .inr ⟨⟨xs, xs[i], q, by simp [hlt]⟩, Pv (i + 1), fun σ' H' p' => ⟨xs.length - (i + 1), by omega, rfl, hlt, p'⟩, fun x H' y => ?_⟩
    obtain ⟨e, y⟩ := y
    subst e
    exact hs i x σ _ (y xs q) p
  · have e : i = xs.length := by omega
    subst e
    exact .inl ⟨⟨xs, q, Nat.le_refl _⟩, hd σ H p⟩
end L2

namespace L2
open PySem PySem.Spec PyProof.Rows

abbrev R2 := V → V → Hp → VK → Prop
/-- a two-place operation on values: f is binaryOp op, inplaceOp op or compareOp op -/
def OpR (X : Cx) (f : Value → Value → Sem Value) (r : R2) : Prop :=
  ∀ (pins : List (Addr × Obj)) (s : Shared) (σ : St) (H : Hp) (x y : V) (v u : Value) (Q : VK), Inv X pins σ H s → RelV x v → RelV y u → r x y H Q →
    wpAny (model X.prog X.w) X.A (f v u) (EP X pins σ Q) X.xe s
/-- a one-place operation -/
def UnR (X : Cx) (f : Value → Sem Value) (r : V → Hp → VK → Prop) : Prop :=
  ∀ (pins : List (Addr × Obj)) (s : Shared) (σ : St) (H : Hp) (x : V) (v : Value) (Q : VK), Inv X pins σ H s → RelV x v → r x H Q →
    wpAny (model X.prog X.w) X.A (f v) (EP X pins σ Q) X.xe s
/-- a call of a value that is known (a builtin, a type) with values -/
def CallR (X : Cx) (f : Value) (r : List V → Hp → VK → Prop) : Prop :=
  ∀ (pins : List (Addr × Obj)) (s : Shared) (σ : St) (H : Hp) (xs : List V) (us : List Value) (Q : VK), Inv X pins σ H s → Vals xs us → r xs H Q →
    wpAny (model X.prog X.w) X.A (call f us) (EP X pins σ Q) X.xe s

def tOp (r : R2) (ta tb : TE) : TE := fun σ H Q => ta σ H fun x H1 => tb σ H1 fun y H2 => r x y H2 Q
def tUn (r : V → Hp → VK → Prop) (ta : TE) : TE := fun σ H Q => ta σ H fun x H1 => r x H1 Q
/-- ints in, under C, and a value out -/
def rI (C : Int → Int → Prop) (g : Int → Int → V) : R2 := fun x y H Q => ∃ i j, x = .int i ∧ y = .int j ∧ C i j ∧ Q (g i j) H
def rI0 (g : Int → Int → V) : R2 := fun x y H Q => ∃ i j, x = .int i ∧ y = .int j ∧ Q (g i j) H
def rU (g : Int → V) : V → Hp → VK → Prop := fun x H Q => ∃ i, x = .int i ∧ Q (g i) H

section
variable {X : Cx} {a b c : Expr} {ta tb tc : TE} {pos : Pos}

theorem binT (ha : PE X a ta) (hb : PE X b tb) {pins : List (Addr × Obj)} {s : Shared} {σ : St} {H : Hp} {R : V → V → Hp → Prop} (I : Inv X pins σ H s)
    (h : ta σ H fun x H1 => tb σ H1 fun y H2 => R x y H2) {Q : Value → Shared → Prop} {f : Value → Value → Sem Value}
    (hf : ∀ v u s2 x y H2, Inv X pins σ H2 s2 → RelV x v → RelV y u → R x y H2 → wpAny (model X.prog X.w) X.A (f v u) Q X.xe s2) :
    wpAny (model X.prog X.w) X.A (eval a X.env) (fun v s₁ => wpAny (model X.prog X.w) X.A (eval b X.env) (fun u s₂ => wpAny (model X.prog X.w) X.A (f v u) Q X.xe s₂) X.xe s₁) X.xe s := by
  refine thn (ha pins s σ H _ I h) fun v s1 ⟨x, H1, I1, r1, q1⟩ => ?_
  refine thn (hb pins s1 σ H1 _ I1 q1) fun u s2 ⟨y, H2, I2, r2, q2⟩ => ?_
  exact hf v u s2 x y H2 I2 r1 r2 q2

theorem pe_op {op : Operator} {r : R2} (ho : OpR X (binaryOp op) r) (ha : PE X a ta) (hb : PE X b tb) : PE X (.BinOp a op b pos) (tOp r ta tb) := by
  intro pins s σ H Q I h
  exact wpAny_BinOp (binT ha hb I h fun v u s2 x y H2 I2 rx ry q => ho pins s2 σ H2 x y v u Q I2 rx ry q)
theorem pe_un {op : UnaryOp} {r : V → Hp → VK → Prop} (ho : UnR X (unaryOp op) r) (ha : PE X a ta) : PE X (.UnaryOp op a pos) (tUn r ta) := by
  intro pins s σ H Q I h
  exact UnaryOp_ (thn (ha pins s σ H _ I h) fun v s1 ⟨x, H1, I1, r1, q1⟩ => ho pins s1 σ H1 x v Q I1 r1 q1)

/-! ### ints -/
theorem opI {f : Value → Value → Sem Value} {C : Int → Int → Prop} {g : Int → Int → Int}
    (rule : ∀ (i j : Int) (t u : Tok) (s : Shared) (Q : Value → Shared → Prop) (E : Value → Shared → Prop), C i j → Q (.int (g i j) s.toks) { s with toks := s.toks + 1 } → wpAny (model X.prog X.w) X.A (f (.int i t) (.int j u)) Q E s) :
    OpR X f (rI C fun i j => .int (g i j)) := by
  intro pins s σ H x y v u Q I rx ry h
  obtain ⟨i, j, rfl, rfl, hc, q⟩ := h
  obtain ⟨t, rfl⟩ := rx
  obtain ⟨t', rfl⟩ := ry
  exact rule i j t t' s _ _ hc ⟨.int (g i j), H, I.tok _, ⟨_, rfl⟩, q⟩
theorem opI0 {f : Value → Value → Sem Value} {g : Int → Int → Int}
    (rule : ∀ (i j : Int) (t u : Tok) (s : Shared) (Q : Value → Shared → Prop) (E : Value → Shared → Prop), Q (.int (g i j) s.toks) { s with toks := s.toks + 1 } → wpAny (model X.prog X.w) X.A (f (.int i t) (.int j u)) Q E s) :
    OpR X f (rI0 fun i j => .int (g i j)) := by
  intro pins s σ H x y v u Q I rx ry h
  obtain ⟨i, j, rfl, rfl, q⟩ := h
  obtain ⟨t, rfl⟩ := rx
  obtain ⟨t', rfl⟩ := ry
  exact rule i j t t' s _ _ ⟨.int (g i j), H, I.tok _, ⟨_, rfl⟩, q⟩
theorem opB0 {f : Value → Value → Sem Value} {g : Int → Int → Bool}
    (rule : ∀ (i j : Int) (t u : Tok) (s : Shared) (Q : Value → Shared → Prop) (E : Value → Shared → Prop), Q (.bool (g i j)) s → wpAny (model X.prog X.w) X.A (f (.int i t) (.int j u)) Q E s) :
    OpR X f (rI0 fun i j => .bl (g i j)) := by
  intro pins s σ H x y v u Q I rx ry h
  obtain ⟨i, j, rfl, rfl, q⟩ := h
  obtain ⟨t, rfl⟩ := rx
  obtain ⟨t', rfl⟩ := ry
  exact rule i j t t' s _ _ ⟨.bl (g i j), H, I, rfl, q⟩

def CDiv (i j : Int) : Prop := 0 < j ∧ j < 1073741824
def CPow (i j : Int) : Prop := 0 ≤ j ∧ j ≤ 1000000 ∧ i.natAbs < 2 ^ 64
def CMul (i j : Int) : Prop := (-(2 ^ 64) < i ∧ i < 2 ^ 64) ∨ (-(2 ^ 64) < j ∧ j < 2 ^ 64)
theorem CMul.ok {i j : Int} (h : CMul i j) : IntMulOk i j := by
  rcases h with ⟨h1, h2⟩ | ⟨h1, h2⟩
  · exact .of_left (intBits_le_64 h1 h2)
  · exact .of_right (intBits_le_64 h1 h2)

theorem op_add : OpR X (binaryOp .Add) (rI0 fun i j => .int (i + j)) := opI0 fun _ _ _ _ _ _ _ q => add_int q
theorem op_sub : OpR X (binaryOp .Sub) (rI0 fun i j => .int (i - j)) := opI0 fun _ _ _ _ _ _ _ q => sub_int q
theorem op_mul : OpR X (binaryOp .Mult) (rI CMul fun i j => .int (i * j)) := opI fun _ _ _ _ _ _ _ hc q => mul_int q hc.ok
/-- // by a positive divisor -/
theorem op_fdiv : OpR X (binaryOp .FloorDiv) (rI CDiv fun i j => .int (i / j)) := opI fun i j _ _ _ _ _ hc q => by
  have h1 : (0 : Int) < j := hc.1
  have h2 : j < 1073741824 := hc.2
  exact floordiv_int (by omega) (by rw [Int.fdiv_eq_ediv_of_nonneg i (by omega)]; exact q) (.inl (PyProof.noPylong_small (by omega)))
/-- % by a positive divisor of any size -/
theorem op_mod : OpR X (binaryOp .Mod) (rI (fun _ j => 0 < j) fun i j => .int (i % j)) := opI fun i j _ _ _ _ _ hc q => by
  have h1 : (0 : Int) < j := hc
  exact mod_int' (by omega) (by rw [Int.fmod_eq_emod_of_nonneg i (by omega)]; exact q)
theorem op_shl : OpR X (binaryOp .LShift) (rI CPow fun i j => .int (i * 2 ^ j.toNat)) := opI fun _ _ _ _ _ _ _ hc q => lshift_int_small hc.1 hc.2.1 hc.2.2 q

theorem unI {f : Value → Sem Value} {g : Int → Int}
    (rule : ∀ (i : Int) (t : Tok) (s : Shared) (Q : Value → Shared → Prop) (E : Value → Shared → Prop), Q (.int (g i) s.toks) { s with toks := s.toks + 1 } → wpAny (model X.prog X.w) X.A (f (.int i t)) Q E s) :
    UnR X f (rU fun i => .int (g i)) := by
  intro pins s σ H x v Q I rx h
  obtain ⟨i, rfl, q⟩ := h
  obtain ⟨t, rfl⟩ := rx
  exact rule i t s _ _ ⟨.int (g i), H, I.tok _, ⟨_, rfl⟩, q⟩
theorem un_neg : UnR X (unaryOp .USub) (rU fun i => .int (-i)) := unI fun _ _ _ _ _ q => neg_int q

/-! ### bools among ints: n += (a < b) -/
end

/-! ### comparisons -/
/-- the scalars that == tells apart as data does -/
def scal : V → V → Bool
  | .non, .non => true | .non, .int _ => true | .int _, .non => true | .non, .bl _ => true | .bl _, .non => true | .non, .str _ => true | .str _, .non => true
  | .int _, .int _ => true | .bl _, .bl _ => true | .str _, .str _ => true | .byt _, .byt _ => true
  | .int _, .str _ => true | .str _, .int _ => true | .bl _, .str _ => true | .str _, .bl _ => true
  | _, _ => false
def rEq : R2 := fun x y H Q => scal x y = true ∧ Q (.bl (decide (x = y))) H
def rNe : R2 := fun x y H Q => scal x y = true ∧ Q (.bl (!decide (x = y))) H

theorem dec_int {i j : Int} : decide (V.int i = V.int j) = (i == j) := by
  rw [Bool.eq_iff_iff]
  simp
theorem dec_bl {i j : Bool} : decide (V.bl i = V.bl j) = (i == j) := by
  rw [Bool.eq_iff_iff]
  simp
theorem dec_str {i j : Str} : decide (V.str i = V.str j) = (i == j) := by
  rw [Bool.eq_iff_iff]
  simp
theorem dec_byt {i j : Array UInt8} : decide (V.byt i = V.byt j) = (i.toList == j.toList) := by
  rw [Bool.eq_iff_iff]
  cases i
  cases j
  simp

section
variable {X : Cx} {a b c : Expr} {ta tb tc : TE} {pos : Pos}
theorem fin_bl {pins : List (Addr × Obj)} {σ : St} {H : Hp} {s : Shared} {Q : VK} {k k' : Bool} (I : Inv X pins σ H s) (q : Q (.bl k) H) (e : k = k') : EP X pins σ Q (.bool k') s := by
  subst e
  exact ⟨.bl k, H, I, rfl, q⟩
theorem op_eq : OpR X (compareOp .Eq) rEq := by
  intro pins s σ H x y v u Q I rx ry h
  obtain ⟨hs, q⟩ := h
  cases x with
  | non =>
    cases rx
    cases y with
    | non => cases ry; exact PySem.EqNone.eq_none_none (fin_bl I q (by simp))
    | bl j => cases ry; exact PySem.EqNone.eq_none_bool (fin_bl I q (by simp))
    | int j => obtain ⟨t', rfl⟩ := ry; exact PySem.EqNone.eq_none_int (fin_bl I q (by simp))
    | str j => obtain ⟨t', rfl⟩ := ry; exact PySem.EqNone.eq_none_str (fin_bl I q (by simp))
    | _ => exact absurd (show false = true from hs) Bool.false_ne_true
  | bl i =>
    cases rx
    cases y with
    | non => cases ry; exact PySem.EqNone.eq_bool_none (fin_bl I q (by simp))
    | bl j => cases ry; exact eq_bool (fin_bl I q dec_bl)
    | str j => obtain ⟨t', rfl⟩ := ry; exact PySem.EqMixed.eq_bool_str (fin_bl I q (by simp))
    | _ => exact absurd (show false = true from hs) Bool.false_ne_true
  | int i =>
    obtain ⟨t, rfl⟩ := rx
    cases y with
    | non => cases ry; exact PySem.EqNone.eq_int_none (fin_bl I q (by simp))
    | int j => obtain ⟨t', rfl⟩ := ry; exact eq_int (fin_bl I q dec_int)
    | str j => obtain ⟨t', rfl⟩ := ry; exact PySem.EqMixed.eq_int_str (fin_bl I q (by simp))
    | _ => exact absurd (show false = true from hs) Bool.false_ne_true
  | str i =>
    obtain ⟨t, rfl⟩ := rx
    cases y with
    | non => cases ry; exact PySem.EqNone.eq_str_none (fin_bl I q (by simp))
    | bl j => cases ry; exact PySem.EqMixed.eq_str_bool (fin_bl I q (by simp))
    | int j => obtain ⟨t', rfl⟩ := ry; exact PySem.EqMixed.eq_str_int (fin_bl I q (by simp))
    | str j => obtain ⟨t', rfl⟩ := ry; exact eq_str (fin_bl I q dec_str)
    | _ => exact absurd (show false = true from hs) Bool.false_ne_true
  | byt i =>
    obtain ⟨t, rfl⟩ := rx
    cases y with
    | byt j => obtain ⟨t', rfl⟩ := ry; exact PySem.W.eq_bytes (fin_bl I q dec_byt)
    | _ => exact absurd (show false = true from hs) Bool.false_ne_true
  | _ => cases y <;> exact absurd (show false = true from hs) Bool.false_ne_true
theorem op_ne : OpR X (compareOp .NotEq) rNe := by
  intro pins s σ H x y v u Q I rx ry h
  obtain ⟨hs, q⟩ := h
  cases x with
  | non =>
    cases rx
    cases y with
    | non => cases ry; exact PySem.EqNone.ne_none_none (fin_bl I q (by simp))
    | bl j => cases ry; exact PySem.EqNone.ne_none_bool (fin_bl I q (by simp))
    | int j => obtain ⟨t', rfl⟩ := ry; exact PySem.EqNone.ne_none_int (fin_bl I q (by simp))
    | str j => obtain ⟨t', rfl⟩ := ry; exact PySem.EqNone.ne_none_str (fin_bl I q (by simp))
    | _ => exact absurd (show false = true from hs) Bool.false_ne_true
  | bl i =>
    cases rx
    cases y with
    | non => cases ry; exact PySem.EqNone.ne_bool_none (fin_bl I q (by simp))
    | bl j => cases ry; exact ne_bool (fin_bl I q (congrArg not dec_bl))
    | str j => obtain ⟨t', rfl⟩ := ry; exact PySem.EqMixed.ne_bool_str (fin_bl I q (by simp))
    | _ => exact absurd (show false = true from hs) Bool.false_ne_true
  | int i =>
    obtain ⟨t, rfl⟩ := rx
    cases y with
    | non => cases ry; exact PySem.EqNone.ne_int_none (fin_bl I q (by simp))
    | int j => obtain ⟨t', rfl⟩ := ry; exact ne_int (fin_bl I q (congrArg not dec_int))
    | str j => obtain ⟨t', rfl⟩ := ry; exact PySem.EqMixed.ne_int_str (fin_bl I q (by simp))
    | _ => exact absurd (show false = true from hs) Bool.false_ne_true
  | str i =>
    obtain ⟨t, rfl⟩ := rx
    cases y with
    | non => cases ry; exact PySem.EqNone.ne_str_none (fin_bl I q (by simp))
    | bl j => cases ry; exact PySem.EqMixed.ne_str_bool (fin_bl I q (by simp))
    | int j => obtain ⟨t', rfl⟩ := ry; exact PySem.EqMixed.ne_str_int (fin_bl I q (by simp))
    | str j => obtain ⟨t', rfl⟩ := ry; exact ne_str (fin_bl I q (congrArg not dec_str))
    | _ => exact absurd (show false = true from hs) Bool.false_ne_true
  | byt i =>
    obtain ⟨t, rfl⟩ := rx
    cases y with
    | byt j => obtain ⟨t', rfl⟩ := ry; exact PySem.W.ne_bytes (fin_bl I q (congrArg not dec_byt))
    | _ => exact absurd (show false = true from hs) Bool.false_ne_true
  | _ => cases y <;> exact absurd (show false = true from hs) Bool.false_ne_true

theorem op_lt : OpR X (compareOp .Lt) (rI0 fun i j => .bl (decide (i < j))) := opB0 fun _ _ _ _ _ _ _ q => lt_int q
theorem op_le : OpR X (compareOp .LtE) (rI0 fun i j => .bl (decide (i ≤ j))) := opB0 fun _ _ _ _ _ _ _ q => le_int q
theorem op_gt : OpR X (compareOp .Gt) (rI0 fun i j => .bl (decide (j < i))) := opB0 fun _ _ _ _ _ _ _ q => gt_int q
theorem op_ge : OpR X (compareOp .GtE) (rI0 fun i j => .bl (decide (j ≤ i))) := opB0 fun _ _ _ _ _ _ _ q => ge_int q

/-- is None, is not None: the right side a value none -/
theorem op_isN : OpR X (compareOp .Is) (fun x y H Q => y = .non ∧ Q (.bl (decide (x = .non))) H) := by
  intro pins s σ H x y v u Q I rx ry h
  obtain ⟨rfl, q⟩ := h
  cases ry
  refine is_none_gen (fin_bl I q ?_)
  cases x <;> first
    | (cases rx; rfl)
    | (obtain ⟨t, rfl⟩ := rx; rfl)
theorem op_notN : OpR X (compareOp .IsNot) (fun x y H Q => y = .non ∧ Q (.bl (!decide (x = .non))) H) := by
  intro pins s σ H x y v u Q I rx ry h
  obtain ⟨rfl, q⟩ := h
  cases ry
  refine isnot_none_gen (fin_bl I q ?_)
  cases x <;> first
    | (cases rx; rfl)
    | (obtain ⟨t, rfl⟩ := rx; rfl)

theorem nomark (b : Expr) {op : CmpOp} (h : op ≠ .In := by decide) (h2 : op ≠ .NotIn := by decide) : behindInMarks op b = false := by
  have e1 : (op == CmpOp.In) = false := by cases op <;> first | rfl | exact absurd rfl h
  have e2 : (op == CmpOp.NotIn) = false := by cases op <;> first | rfl | exact absurd rfl h2
  cases b <;> simp [behindInMarks, e1, e2]
/-- a comparison as a value; hm: nomark b, or (for in, not in) by with_unfolding_all rfl -/
theorem pe_cmpR {op : CmpOp} {r : R2} (ho : OpR X (compareOp op) r) (ha : PE X a ta) (hb : PE X b tb) (hm : behindInMarks op b = false) : PE X (.Compare a [op] [b] pos) (tOp r ta tb) := by
  intro pins s σ H Q I h
  exact wpAny_Compare1 (binT ha hb I h fun v u s2 x y H2 I2 rx ry q => ho pins s2 σ H2 x y v u Q I2 rx ry q) hm
/-- a reading of a value as a test -/
def tTest (t : TE) : TT := fun σ H Q => t σ H fun x H' => ∃ k, x = .bl k ∧ Q k H'
theorem pt_cmpR {op : CmpOp} {r : R2} (ho : OpR X (compareOp op) r) (ha : PE X a ta) (hb : PE X b tb) (hm : behindInMarks op b = false) : PT X (.Compare a [op] [b] pos) (tTest (tOp r ta tb)) := by
  intro pins s σ H Q I h
  refine wpAny_isTrue_Compare1 (thn (ha pins s σ H _ I h) fun v s1 ⟨x, H1, I1, r1, q1⟩ => thn (hb pins s1 σ H1 _ I1 q1) fun u s2 ⟨y, H2, I2, r2, q2⟩ =>
    thn (ho pins s2 σ H2 x y v u _ I2 r1 r2 q2) fun c s3 ⟨z, H3, I3, r3, k, e, q3⟩ => ?_) hm
  subst e
  cases r3
  exact wpAny_truthy_bool ⟨H3, I3, q3⟩

/-! ### truth -/
theorem line63 : (sizeLine : Nat) < 2 ^ 63 := by rw [sizeLine_eq]; decide

/-! ### strs and bytes -/

/-! ### scalar builtins, by CallR -/
theorem vals1 {x : V} {us : List Value} (r : Vals [x] us) : ∃ u, us = [u] ∧ RelV x u := by
  cases r with
  | cons r1 r2 => cases r2; exact ⟨_, rfl, r1⟩
theorem vals2 {x y : V} {us : List Value} (r : Vals [x, y] us) : ∃ u w', us = [u, w'] ∧ RelV x u ∧ RelV y w' := by
  cases r with
  | cons r1 r2 =>
    cases r2 with
    | cons r3 r4 => cases r4; exact ⟨_, _, rfl, r1, r3⟩
theorem call_abs : CallR X (.builtin "abs") (fun xs H Q => ∃ i, xs = [.int i] ∧ Q (.int (if i < 0 then -i else i)) H) := by
  intro pins s σ H xs us Q I r h
  obtain ⟨i, rfl, q⟩ := h
  obtain ⟨u, rfl, t, rfl⟩ := vals1 r
  exact call_abs_int fun u tk => ⟨.int (if i < 0 then -i else i), H, I.tok _, ⟨_, rfl⟩, q⟩
theorem call_min2 (hc : X.calm = true) : CallR X (.builtin "min") (fun xs H Q => ∃ i j, xs = [.int i, .int j] ∧ Q (.int (if j < i then j else i)) H) := by
  intro pins s σ H xs us Q I r h
  obtain ⟨i, j, rfl, q⟩ := h
  obtain ⟨u, w', rfl, ⟨t, rfl⟩, ⟨t', rfl⟩⟩ := vals2 r
  refine min_two_ints (I.ok.hd hc) fun h' tk k => ⟨_, H, I.kept k, ?_, q⟩
  by_cases hj : j < i
  · rw [if_pos hj, if_pos hj]; exact ⟨_, rfl⟩
  · rw [if_neg hj, if_neg hj]; exact ⟨_, rfl⟩
end
end L2

namespace L2
open PySem PySem.Spec PyProof.Rows

/-! ### an instance, its attributes a map -/

section
variable {prog : Program} {w : World} {A : Around} {E : Value → Shared → Prop} {s : Shared} {K : PySem.W.Frag} {x dx C f : Addr} {mA : Str → Option Value} {name : Str} {v : Value}

end

/-! ### the attributes as a list of pairs -/

section
variable {P : Program} {w : World} {H H' : Hp} {h h' : Heap} {a C dx : Addr} {fs fs' : List (Str × V)}
end

/-! ### what of the text a class must have -/

section
variable {X : Cx} {pins : List (Addr × Obj)} {σ : St} {H : Hp} {s : Shared} {a C dx : Addr} {fs : List (Str × V)} {f : Str} {v : V} {A : Around} {E : Value → Shared → Prop}

end

/-! ### readings and rules -/

section
variable {X : Cx} {o e value : Expr} {f : Str} {pos pos' tpos : Pos} {ta tv : TE}

end

/-! ### isinstance -/
section
variable {X : Cx} {pins : List (Addr × Obj)} {σ : St} {H : Hp} {s : Shared} {A : Around} {E : Value → Shared → Prop} {Q : Value → Shared → Prop} {c : Value} {b : Bool}
end
end L2

namespace L2
open PySem PySem.Spec PyProof.Rows

/-! ### room -/
structure Room (k : Nat) (A : Around) : Prop where
  hd : A.handled = none
  dp : A.depth + 3 * k + 5 < recursionLimit
  un : A.units + 16 * k + 200 < cLine
theorem Room.mono {j k : Nat} {A : Around} (r : Room k A) (h : j ≤ k) : Room j A := ⟨r.hd, by have := r.dp; omega, by have := r.un; omega⟩
theorem Room.deeper {k : Nat} {A : Around} (r : Room (k + 1) A) (env : Env) : Room k (A.deeper env) :=
  ⟨r.hd, by have := r.dp; show A.depth + 1 + 3 * k + 5 < _; omega, by have := r.un; show A.units + 3 + 16 * k + 200 < _; omega⟩
theorem Room.depth {k : Nat} {A : Around} (r : Room k A) : A.depth < recursionLimit := by have := r.dp; omega

/-! ### argument lists and displays -/
def tNil : TA := fun _ H Q => Q [] H
def tCons (ta : TE) (tr : TA) : TA := fun σ H Q => ta σ H fun x H1 => tr σ H1 fun xs H2 => Q (x :: xs) H2
section
variable {X : Cx} {e : Expr} {es : List Expr} {te : TE} {t : TA} {pos : Pos}
theorem pa_nil : PA X [] tNil := fun _ _ _ _ H Q I h => Calls.spliced_nil ⟨[], H, I, .nil, h⟩
theorem pa_cons (ha : PE X e te) (hr : PA X es t) (hs : starEach (e :: es) X.env = (false, eval e X.env) :: starEach es X.env := by rfl) : PA X (e :: es) (tCons te t) := by
  intro pos pins s σ H Q I h
  rw [hs]
  show wpAny _ _ (spliced ((false, eval e X.env) :: backTo pos (starEach es X.env))) _ _ s
  refine Calls.spliced_cons (thn (ha pins s σ H _ I h) fun u s1 ⟨x, H1, I1, r1, q1⟩ => ?_)
  exact thn (hr pos pins s1 σ H1 _ I1 q1) fun us s2 ⟨xs, H2, I2, r2, q2⟩ => ⟨x :: xs, H2, I2, .cons r1 r2, q2⟩

/-- a tuple, a list of written items -/
def tTup (t : TA) : TE := fun σ H Q => t σ H fun xs H1 => xs.length ≤ sizeLine ∧ ∀ p, H1 p = none → Q (.ref p) (upd H1 p (.tup xs))
def tLst (t : TA) : TE := fun σ H Q => t σ H fun xs H1 => xs.length ≤ sizeLine ∧ ∀ p, H1 p = none → Q (.ref p) (upd H1 p (.lst xs))
theorem pe_tup {x1} (h : PA X es t) : PE X (.Tuple es x1 pos) (tTup t) := by
  intro pins s σ H Q I hq
  refine wpAny_Tuple_spliced (thn (h pos pins s σ H _ I hq) fun us s1 ⟨xs, H1, I1, r, z, q⟩ => ⟨by rw [← r.length]; exact z, ?_⟩)
  have hf : H1 s1.heap.objs.size = none := I1.hok.fresh (Nat.le_refl _)
  refine ⟨.ref s1.heap.objs.size, upd H1 s1.heap.objs.size (.tup xs), I1.laid (t' := s1.toks) (fun b u e => Heap.get?_push_of_some _ e) (Nat.le_refl _) ?_, rfl, q _ hf⟩
  exact ⟨z, us, r, ⟨_, Heap.get?_push_size _ rfl, rfl, _, rfl⟩⟩
theorem pe_lst (h : PA X es t) : PE X (.List es pos) (tLst t) := by
  intro pins s σ H Q I hq
  refine wpAny_List_spliced (thn (h pos pins s σ H _ I hq) fun us s1 ⟨xs, H1, I1, r, z, q⟩ => ⟨by rw [← r.length]; exact z, ?_⟩)
  have hf : H1 s1.heap.objs.size = none := I1.hok.fresh (Nat.le_refl _)
  refine ⟨.ref s1.heap.objs.size, upd H1 s1.heap.objs.size (.lst xs), I1.laid (t' := s1.toks) (fun b u e => Heap.get?_push_of_some _ e) (Nat.le_refl _) ?_, rfl, q _ hf⟩
  exact ⟨z, us, 0, r, Heap.get?_push_size _ rfl⟩
end

/-! ### what a def promises -/
/-- a def's promise: the bound arguments in the parameters' order, the heap, the wanted end, the wanted exception -/
abbrev Sp := List V → Hp → VK → XK → Prop
/-- how an exception lies behind a call (file 08 gives it): the callers' frames, abstract heap and state ahead of the call, the wish, the exception, the state -/
abbrev CXT := List Env → Hp → Shared → XK → Value → Shared → Prop

/-- the state at a call -/
structure Env0 (P : Program) (w : World) (K : PySem.W.Frag) (mg : Str → Option Value) (base : Heap) (A : Around) (outer : List Env) (s : Shared) (H : Hp) : Prop where
  frames : A.frames = some outer
  mod : Mod K mg base
  bs : ∀ b o, base.get? b = some o → s.heap.get? b = some o ∧ H b = none
  bsz : base.objs.size ≤ s.heap.objs.size
  funs : s.heap.FunFrames base outer
  frf : ∀ b ∈ frs outer, H b = none
  hok : HOk P w H s.heap
  bare : AllBare s.gens
/-- a call's end -/
def CE (outer : List Env) (P : Program) (w : World) (H : Hp) (s : Shared) (Q : VK) (u : Value) (s' : Shared) : Prop :=
  ∃ v H', s'.os = s.os ∧ AllBare s'.gens ∧ Un (frs outer) [] H H' s.heap s'.heap ∧ HOk P w H' s'.heap ∧ RelV v u ∧ Q v H'
def CR (CX : CXT) (outer : List Env) (P : Program) (w : World) (H : Hp) (s : Shared) (Q : VK) (E : XK) (r : Result) (s' : Shared) : Prop :=
  match r with
  | .ok (.ret u) => CE outer P w H s Q u s'
  | .ok _ => False
  | .error e => CX outer H s E e s'
structure FnOk (P : Program) (w : World) (K : PySem.W.Frag) (mg : Str → Option Value) (base : Heap) (CX : CXT) (k : Nat) (f : Addr) (fd : FuncData) (ps : List Str) (sp : Sp) : Prop where
  len : ∀ vs H Q E, sp vs H Q E → vs.length = ps.length
  run : ∀ (A : Around) (outer : List Env) (s : Shared) (H : Hp) (args : Args) (us : List Value) (vs : List V) (Q : VK) (E : XK), Room k A → Env0 P w K mg base A outer s H → BindsTo s fd args (ps.zip us) → Vals vs us → sp vs H Q E →
    codeAny (model P w) A (.call (.ref f) args) (CR CX outer P w H s Q E) s

section
variable {X : Cx} {pins : List (Addr × Obj)} {σ : St} {H : Hp} {s s' : Shared}
/-- from a body: what a callee wants -/
theorem Inv.env0 (I : Inv X pins σ H s) : Env0 X.prog X.w X.K X.mg X.base X.A X.stack s H :=
  ⟨I.ok.frames, I.ok.mod, I.bs, Nat.le_trans I.ok.bsz I.sz, I.stack, I.stkFree, I.hok, I.bare⟩
/-- behind a call -/
theorem Inv.after {Q : VK} {u : Value} (I : Inv X pins σ H s) (h : CE X.stack X.prog X.w H s Q u s') : EP X pins σ Q u s' := by
  obtain ⟨v, H', os, bare, un, hok, r, q⟩ := h
  obtain ⟨hh, g, d, t, os'⟩ := s'
  obtain rfl : os' = s.os := os
  exact ⟨v, H', I.call (h' := hh) (g' := g) (d' := d) (t' := t) (ch := []) un hok bare (fun b z => absurd z (by simp)), r, q⟩
end

/-! ### calls -/
/-- f(..): the written arguments, then the defaults dvs; E: what is wanted of an exception -/
def tCall (sp : Sp) (dvs : List V) (E : XK) (t : TA) : TE := fun σ H Q => t σ H fun vs H1 => sp (vs ++ dvs) H1 Q E

/-- how the parameters are bound: us the positional arguments, kw the keywords' values by name, ds the defaults that fill up -/
def Binds (K : PySem.W.Frag) (fd : FuncData) (ps : List Str) (ds : List Value) : Prop :=
  ∀ (s : Shared) (us : List Value), K.In s.heap → (us ++ ds).length = ps.length → BindsTo s fd ⟨us, []⟩ (ps.zip (us ++ ds))
/-- every parameter is given -/
theorem Binds.all {K : PySem.W.Frag} {fd : FuncData} {ps : List Str} (h : ∀ us : List Value, us.length = ps.length → bindArgs fd ⟨us, []⟩ = pure (ps.zip us)) : Binds K fd ps [] := fun s us _ hl => by
  rw [List.append_nil] at hl ⊢
  exact .of_eq (h us hl)

/-- an exception of a callee reaches what this body wants of exceptions -/
def Passes (CX : CXT) (X : Cx) (E : XK) : Prop := ∀ (pins : List (Addr × Obj)) (σ : St) (H : Hp) (s : Shared) (e : Value) (s' : Shared), Inv X pins σ H s → CX X.stack H s E e s' → X.xe e s'

section
variable {X : Cx} {CX : CXT} {k : Nat} {f C : Addr} {fd : FuncData} {ps : List Str} {sp : Sp} {dvs : List V} {ds : List Value} {E : XK} {x m : Str} {p pos apos : Pos} {e o : Expr} {es : List Expr} {ta : TE} {t : TA}

/-- the callee runs -/
theorem run_fn {pins : List (Addr × Obj)} {σ : St} {H : Hp} {s : Shared} {Q : VK} {us : List Value} {vs : List V} (F : FnOk X.prog X.w X.K X.mg X.base CX k f fd ps sp) (hr : Room k X.A) (hb : Binds X.K fd ps ds) (hd : Vals dvs ds) (hx : Passes CX X E)
    (I : Inv X pins σ H s) (r : Vals vs us) (h : sp (vs ++ dvs) H Q E) : wpAny (model X.prog X.w) X.A (call (.ref f) us) (EP X pins σ Q) X.xe s := by
  have r2 : Vals (vs ++ dvs) (us ++ ds) := r.append hd
  have hl : (us ++ ds).length = ps.length := by rw [← r2.length]; exact F.len _ _ _ _ h
  refine wpAny_call (codeAny_mono (F.run X.A X.stack s H ⟨us, []⟩ (us ++ ds) (vs ++ dvs) Q E hr I.env0 (hb s us I.kIn hl) r2 h) fun r s' hq => ?_)
  cases r with
  | error e => exact hx pins σ H s e s' I hq
  | ok fl =>
    cases fl with
    | ret u => exact I.after hq
    | next => exact False.elim hq
    | brk => exact False.elim hq
    | cont => exact False.elim hq

theorem pe_call (F : FnOk X.prog X.w X.K X.mg X.base CX k f fd ps sp) (hr : Room k X.A) (hg : Gl X x) (hm : X.mg x = some (.ref f)) (hk : PySem.W.keepIn X.K (.ref f) = true) (hb : Binds X.K fd ps ds) (hd : Vals dvs ds) (hx : Passes CX X E)
    (ha : PA X (e :: es) t) (hdb : (x == ("__debug__" : Str)) = false := by decide) (he : starEach (e :: es) X.env = (false, eval e X.env) :: starEach es X.env := by rfl) (hpl : (backTo pos (starEach es X.env)).any (·.1) = false := by rfl) :
    PE X (.Call (.Name x p) (e :: es) [] pos) (tCall sp dvs E t) := by
  intro pins s σ H Q I h
  refine wpAny_Call_Name_kw (ld_glob I hg hm ?_ hdb)
  refine PySem.W.callWith_K (h₀ := X.base) I.ok.mod.kin hk (thn (ha pos pins s σ H _ I h) fun us s1 ⟨vs, H1, I1, r, q⟩ => ⟨I1.kIn, ?_⟩) he hpl
  exact run_fn F hr hb hd hx I1 r q

end

/-! ### keywords -/
section
variable {X : Cx} {CX : CXT} {k : Nat} {f C : Addr} {fd : FuncData} {ps ks : List Str} {sp : Sp} {E : XK} {x m : Str} {p pos apos kpos : Pos} {e o : Expr} {es : List Expr} {kws : List Keyword} {te ta : TE} {t tk : TA} {nm : Option Str}

variable {g : List Value → List Value → List Value} {gV : List V → List V → List V}
end

/-! ### a def's body keeps its promise -/
/-- names: the parameters first -/
structure FnScope (N P : List Str) (sc : Scope) : Prop where
  kind : sc.kind = .function
  co : sc.isCoroutine = false
  gen : sc.isGenerator = false
  nd : N.Nodup
  pre : N.take P.length = P
  par : ∀ x ∈ P, sc.names.lookup x = some .local ∨ sc.names.lookup x = some .cell
  nofree : ∀ y ∈ sc.names, y.2 ≠ .free

theorem bindL_out {kindOf : Str → Option NameKind} {x : Str} : ∀ {binds : List (Str × Value)} {m : Str → Option Value}, (∀ v, (x, v) ∉ binds) → bindL kindOf binds m x = m x
  | [], _, _ => rfl
  | (n, v) :: r, m, h => by
    unfold bindL
    rw [bindL_out fun w hw => h w (List.mem_cons_of_mem _ hw)]
    split
    · have : x ≠ n := by rintro rfl; exact h v List.mem_cons_self
      simp [this]
    · rfl
theorem bindC_out {kindOf : Str → Option NameKind} {x : Str} : ∀ {binds : List (Str × Value)} {m : Str → Option Value}, (∀ v, (x, v) ∉ binds) → bindC kindOf binds m x = m x
  | [], _, _ => rfl
  | (n, v) :: r, m, h => by
    unfold bindC
    rw [bindC_out fun w hw => h w (List.mem_cons_of_mem _ hw)]
    split
    · rfl
    · have : x ≠ n := by rintro rfl; exact h v List.mem_cons_self
      simp [this]
theorem bindL_get {kindOf : Str → Option NameKind} {x : Str} {v : Value} : ∀ {P : List Str} {vs : List Value} {i : Nat} {m : Str → Option Value}, P.Nodup → P[i]? = some x → vs[i]? = some v → kindOf x = some .local →
    bindL kindOf (P.zip vs) m x = some v
  | [], _, _, _, _, h, _, _ => by simp at h
  | _ :: _, [], _, _, _, _, h, _ => by simp at h
  | p :: P, w :: vs, 0, m, nd, h1, h2, hk => by
    simp at h1 h2; subst h1; subst h2
    show bindL kindOf ((p, w) :: P.zip vs) m p = _
    unfold bindL
    rw [bindL_out fun v hv => (List.nodup_cons.mp nd).1 (List.of_mem_zip hv).1, if_pos hk]
    simp
  | p :: P, w :: vs, i + 1, m, nd, h1, h2, hk => by
    show bindL kindOf ((p, w) :: P.zip vs) m x = _
    unfold bindL
    exact bindL_get (i := i) (List.nodup_cons.mp nd).2 (by simpa using h1) (by simpa using h2) hk
theorem bindC_get {kindOf : Str → Option NameKind} {x : Str} {v : Value} : ∀ {P : List Str} {vs : List Value} {i : Nat} {m : Str → Option Value}, P.Nodup → P[i]? = some x → vs[i]? = some v → kindOf x ≠ some .local →
    bindC kindOf (P.zip vs) m x = some v
  | [], _, _, _, _, h, _, _ => by simp at h
  | _ :: _, [], _, _, _, _, h, _ => by simp at h
  | p :: P, w :: vs, 0, m, nd, h1, h2, hk => by
    simp at h1 h2; subst h1; subst h2
    show bindC kindOf ((p, w) :: P.zip vs) m p = _
    unfold bindC
    rw [bindC_out fun v hv => (List.nodup_cons.mp nd).1 (List.of_mem_zip hv).1, if_neg hk]
    simp
  | p :: P, w :: vs, i + 1, m, nd, h1, h2, hk => by
    show bindC kindOf ((p, w) :: P.zip vs) m x = _
    unfold bindC
    exact bindC_get (i := i) (List.nodup_cons.mp nd).2 (by simpa using h1) (by simpa using h2) hk

/-- the names' values at the entry -/
def start (N : List Str) (vs : List V) : St := vs.map some ++ List.replicate (N.length - vs.length) none

/-- the context of a def's body, at its entry; an exception leaves the frame, then lies as CX says -/
def cxOf (CX : CXT) (P : Program) (w : World) (K : PySem.W.Frag) (mg : Str → Option Value) (base : Heap) (N : List Str) (qual : Str) (scope : Scope) (f : Addr) (cd : Value) (A : Around) (outer : List Env) (s : Shared) (H : Hp) (E : XK) : Cx where
  prog := P
  w := w
  K := K
  mg := mg
  base := base
  A := A.deeper (envOfC qual scope s.heap.objs.size f cd)
  N := N
  s_0 := s
  H_0 := H
  env := envOfC qual scope s.heap.objs.size f cd
  outer := outer
  stack := envOfC qual scope s.heap.objs.size f cd :: outer
  ex := []
  calm := true
  fn := fun _ => true
  pn := []
  xe := fun e s' => wpAny (model P w) (A.deeper (envOfC qual scope s.heap.objs.size f cd)) (leaving (envOfC qual scope s.heap.objs.size f cd) e) (fun _ s'' => CX outer H s E e s'') (fun e' s'' => CX outer H s E e' s'') s'

theorem cell_has {sc : Scope} {n : Nat} {x : Str} (h : sc.names.lookup x = some .cell) : ∃ c, (cellsFrom n sc.names []).lookup x = some c := by
  have q := PySem.W.cellsFrom_some sc.names n [] (.inl h)
  exact Option.isSome_iff_exists.mp q

theorem inv_start {CX : CXT} {P : Program} {w : World} {K : PySem.W.Frag} {mg : Str → Option Value} {base : Heap} {N ps : List Str} {qual : Str} {scope : Scope} {f : Addr} {cd : Value} {A : Around} {outer : List Env} {s s1 : Shared} {H : Hp} {E : XK} {us : List Value} {vs : List V}
    (S : FnScope N ps scope) (hd : A.handled = none) (e0 : Env0 P w K mg base A outer s H) (hl : vs.length = ps.length) (r : Vals vs us)
    (x : InCallC s s.heap.objs.size (bindL (envOfC qual scope s.heap.objs.size f cd).kindOf (ps.zip us) fun _ => none) (cellsFrom (s.heap.objs.size + 1) scope.names []) (bindC (envOfC qual scope s.heap.objs.size f cd).kindOf (ps.zip us) fun _ => none) s1) :
    Inv (cxOf CX P w K mg base N qual scope f cd A outer s H E) [] (start N vs) H s1 := by
  have hpl : ps.length ≤ N.length := by have := congrArg List.length S.pre; rw [List.length_take] at this; omega
  obtain ⟨h1, tk, rfl, hk⟩ := x.done
  have noA : ∀ b : Addr, b ∉ (cxOf CX P w K mg base N qual scope f cd A outer s H E).ex := fun b z => absurd (show b ∈ ([] : List Addr) from z) (by simp)
  refine ⟨⟨e0.mod, S.kind, rfl, rfl, Nat.le_refl _, fun y z c h1 h2 => ?_, fun y hy => ?_, fun y c _ h => ?_, fun _ => hd, Around.frames_deeper e0.frames, .inr ⟨rfl, rfl⟩, fun b z => absurd z (noA b), e0.bs, e0.bsz, fun b _ _ => noA b, fun b z => absurd z (noA b), e0.funs, e0.frf⟩,
    rfl, e0.bare, Un.kept hk, ⟨_, x.toInCall.ns, fun i y v h1 h2 h3 => ?_⟩, fun y c h => ⟨_, x.cell y c h⟩, e0.hok.fresh (Nat.le_refl _), fun y c h => ?_, fun p hp => absurd (show p ∈ ([] : List (Addr × Obj)) from hp) (by simp), e0.hok.kept hk, ?_⟩
  · exact name_of_addr x.apart (PySem.mem_of_lookup h1) (PySem.mem_of_lookup h2)
  · have hy : scope.names.lookup y = some .cell ∨ scope.names.lookup y = some .free := hy
    rcases hy with hy | hy
    · exact cell_has hy
    · exact absurd rfl (S.nofree _ (PySem.mem_of_lookup hy))
  · exact Nat.le_of_lt (x.above y c (PySem.mem_of_lookup h))
  · have hi : i < vs.length := by
      unfold start at h2
      by_cases hi : i < vs.length
      · exact hi
      · rw [List.getElem?_append_right (by simpa using hi)] at h2
        rw [List.getElem?_replicate] at h2
        split at h2 <;> cases h2
    have ha : vs[i]? = some v := by
      unfold start at h2
      rw [List.getElem?_append_left (by simpa using hi), List.getElem?_map] at h2
      cases e : vs[i]? with
      | none => rw [e] at h2; cases h2
      | some a => rw [e] at h2; cases h2; rfl
    obtain ⟨u, hu, rv⟩ := r.get ha
    have hp : ps[i]? = some y := by
      rw [← S.pre, List.getElem?_take_of_lt (by omega)]; exact h1
    have ndP : ps.Nodup := by rw [← S.pre]; exact S.nd.sublist (List.take_sublist _ _)
    refine ⟨u, rv, ?_⟩
    rcases S.par y (List.mem_of_getElem? hp) with k | k
    · exact .inl ⟨k, bindL_get ndP hp hu k⟩
    · obtain ⟨c, e⟩ := cell_has (n := s.heap.objs.size + 1) k
      refine .inr ⟨.inl k, c, e, ?_⟩
      have q := x.cell y c e
      rw [bindC_get ndP hp hu (by show scope.names.lookup y ≠ _; rw [k]; decide)] at q
      exact q
  · exact e0.hok.fresh (Nat.le_of_lt (x.above y c (PySem.mem_of_lookup h)))
  · unfold start
    show _ = N.length
    rw [List.length_append, List.length_map, List.length_replicate]
    omega

/-- THE RULE: a def (or a method) of the text, by its body. The body's reading t is chosen for each entry; it is run at the parameters' values -/
theorem fn_of {CX : CXT} {P : Program} {w : World} {K : PySem.W.Frag} {mg : Str → Option Value} {base : Heap} {k : Nat} {f : Addr} {name qual : Str} {params : Arguments} {body : List Stmt} {scope : Scope} {dV kV doc pm cdv ct oc : Value} {an od : Option Addr}
    {osl : Array (Option Value)} {N ps : List Str} {sp : Sp} (lk : K.lookup f = some ⟨oc, od, .func (PySem.W.fnOf name qual params body scope dV kV doc pm an cdv ct), osl⟩) (hcd : PySem.W.codeIn K cdv qual = true) (S : FnScope N ps scope)
    (len : ∀ vs H Q E, sp vs H Q E → vs.length = ps.length)
    (hbody : ∀ (A : Around) (outer : List Env) (s : Shared) (H : Hp) (vs : List V) (Q : VK) (E : XK), Room k (A.deeper (envOfC qual scope s.heap.objs.size f cdv)) → sp vs H Q E →
      ∃ t, PSs (cxOf CX P w K mg base N qual scope f cdv A outer s H E) body t ∧ t { nx := fun _ H' => Q .non H', rt := Q } (start N vs) H) :
    FnOk P w K mg base CX (k + 1) f (PySem.W.fnOf name qual params body scope dV kV doc pm an cdv ct) ps sp := by
  refine ⟨len, fun A outer s H args us vs Q E hr e0 hb r hsp => ?_⟩
  have hl := len _ _ _ _ hsp
  have KX : K.In s.heap := e0.mod.kin.keeps fun b o e => (e0.bs b o e).1
  have lim : s.heap.NoLimit := e0.mod.nolimit.keeps fun b o e => (e0.bs b o e).1
  have hkind : ∀ y ∈ ps.zip us, scope.names.lookup y.1 = some .local ∨ (scope.names.lookup y.1 = some .cell ∧ ((cellsFrom (s.heap.objs.size + 1) scope.names []).lookup y.1).isSome = true) := fun ⟨n, v⟩ hy => by
    rcases S.par n (List.of_mem_zip hy).1 with q | q
    · exact .inl q
    · exact .inr ⟨q, PySem.W.cellsFrom_some _ _ _ (.inl q)⟩
  refine codeAny_call_function hr.depth (KX _ _ lk) rfl S.co S.gen rfl (PySem.W.codeRec_of KX hcd) (hb _ _ _ _ ?_)
  refine wpAny_newFunctionEnv_cells S.kind hkind fun env he s1 x => ?_
  subst he
  refine ⟨lim.keeps x.toInCall.keep, codeAny_func ?_⟩
  obtain ⟨t, ht, hq⟩ := hbody A outer s H vs Q E (hr.deeper _) hsp
  have I : Inv (cxOf CX P w K mg base N qual scope f cdv A outer s H E) [] (start N vs) H s1 := inv_start S hr.hd e0 hl r x
  refine wpAny_mono (ht [] s1 (start N vs) H _ I hq) (fun fl s' hs => ?_) fun e s' hs => hs
  have fin : ∀ {σ' : St} {H' : Hp} {v : V} {u : Value}, Inv (cxOf CX P w K mg base N qual scope f cdv A outer s H E) [] σ' H' s' → RelV v u → Q v H' → CE outer P w H s Q u s' :=
    fun {σ' H' v u} J rv q => ⟨v, H', J.os, J.bare, J.base, J.hok, rv, q⟩
  cases fl with
  | ret u =>
    obtain ⟨v, σ', H', J, rv, q⟩ := hs
    exact fin J rv q
  | next =>
    obtain ⟨σ', H', J, q⟩ := hs
    exact fin (v := V.non) (u := Value.none) J rfl q
  | brk =>
    obtain ⟨_, _, _, q⟩ := hs
    exact False.elim q
  | cont =>
    obtain ⟨_, _, _, q⟩ := hs
    exact False.elim q
end L2

namespace L2
open PySem PySem.Spec PyProof.Rows
section
variable {X : Cx} {x : Str} {p pos : Pos} {e : Expr} {es : List Expr} {t : TA} {id T : String} {r : List V → Hp → VK → Prop}

def tCB (r : List V → Hp → VK → Prop) (t : TA) : TE := fun σ H Q => t σ H fun vs H1 => r vs H1 Q
/-- f(e, ..), f a built-in function -/
theorem pe_callB (hc : CallR X (.builtin id) r) (hg : Gl X x) (hm : X.mg x = none) (hv : bootBuiltins x = some (.builtin id)) (ha : PA X (e :: es) t) (hn : x ≠ "__name__" := by decide) (hdb : (x == ("__debug__" : Str)) = false := by decide)
    (he : starEach (e :: es) X.env = (false, eval e X.env) :: starEach es X.env := by rfl) (hpl : (backTo pos (starEach es X.env)).any (·.1) = false := by rfl) : PE X (.Call (.Name x p) (e :: es) [] pos) (tCB r t) := by
  intro pins s σ H Q I h
  refine wpAny_Call_Name_kw (ld_blt I hg hm hv ?_ hn hdb)
  exact PyProof.Rows.callWith_builtin1 (thn (ha pos pins s σ H _ I h) fun us s1 ⟨vs, H1, I1, r1, q1⟩ => hc pins s1 σ H1 vs us Q I1 r1 q1) he hpl
end
end L2

namespace HT
open PySem PyProof.Rows

section
open PySem.SeqAt
open PySem.AutoSeq1 (wpAny_loadPart')
open PySem.MeetsSeq PySem.MeetsSeq2 PySem.MeetsSeq3

end

section
variable {prog : Program} {w : World} {A : Around} {E : Value → Shared → Prop} {s : Shared}

/-! ### t[a:b], not the whole -/
/-- a slice's bound as a place among n (d where it is left out) -/
def sIx (n d : Nat) : Option Int → Nat
  | none => d
  | some v => if v < 0 then (v + (n : Int)).toNat else min v.toNat n
theorem sIx_none (n d : Nat) : sIx n d none = d := rfl
theorem sIx_nat (n d k : Nat) : sIx n d (some (k : Int)) = min k n := by
  show (if (k : Int) < 0 then ((k : Int) + (n : Int)).toNat else min (k : Int).toNat n) = min k n
  rw [if_neg (by omega), Int.toNat_natCast]

end
end HT

namespace L2
open PySem PySem.Spec PyProof.Rows

/-! ### the parts of a slice -/
abbrev TO := St → Hp → (Option Int → Hp → Prop) → Prop
/-- a slice's part (left out, or an int) -/
def PO (X : Cx) (e : Option Expr) (t : TO) : Prop :=
  ∀ (pins : List (Addr × Obj)) (s : Shared) (σ : St) (H : Hp) (Q : Option Int → Hp → Prop), Inv X pins σ H s → t σ H Q →
    wpAny (model X.prog X.w) X.A (evalPart e X.env) (fun u s' => ∃ o H', Inv X pins σ H' s' ∧ IsPart u o ∧ Q o H') X.xe s
def tNoPart : TO := fun _ H Q => Q none H
def tPart (t : TE) : TO := fun σ H Q => t σ H fun x H1 => ∃ i, x = .int i ∧ Q (some i) H1

section
variable {X : Cx} {e : Expr} {te : TE} {lo hi : Option Expr} {tl th : TO} {pos p2 : Pos}

theorem po_none : PO X none tNoPart := by
  intro pins s σ H Q I h
  rw [evalPart_none]
  exact wpAny_pure ⟨none, H, I, .none, h⟩
theorem po_some (h : PE X e te) : PO X (some e) (tPart te) := by
  intro pins s σ H Q I hw
  rw [evalPart_some]
  refine thn (h pins s σ H _ I hw) fun u s1 ⟨x, H1, I1, r1, q1⟩ => ?_
  obtain ⟨i, rfl, q⟩ := q1
  obtain ⟨t, rfl⟩ := r1
  exact ⟨some i, H1, I1, .int i t, q⟩

/-- what a slice of a value is, by values: the slice object stands at sl -/
def SlR (X : Cx) (r : V → Option Int → Option Int → Hp → VK → Prop) : Prop :=
  ∀ (pins : List (Addr × Obj)) (s : Shared) (σ : St) (H : Hp) (x : V) (v vl vu : Value) (lo hi : Option Int) (sl : Addr) (Q : VK), Inv X pins σ H s → RelV x v → s.heap.IsSliceOf sl vl vu .none → IsPart vl lo → IsPart vu hi → r x lo hi H Q →
    ∃ T id, typeLookup (.type T) "__getitem__" = pure (some (.builtin id)) ∧ s.TypeIs v T ∧ wpAny (model X.prog X.w) X.A (getItem v (.ref sl)) (EP X pins σ Q) X.xe s
def tSl (r : V → Option Int → Option Int → Hp → VK → Prop) (te : TE) (tl th : TO) : TE := fun σ H Q => te σ H fun x H1 => tl σ H1 fun l H2 => th σ H2 fun u H3 => r x l u H3 Q
/-- a[lo:hi], any a -/
theorem pe_slice {r : V → Option Int → Option Int → Hp → VK → Prop} (hr : SlR X r) (he : PE X e te) (hl : PO X lo tl) (hu : PO X hi th) : PE X (.Subscript e (.Slice lo hi none p2) pos) (tSl r te tl th) := by
  intro pins s σ H Q I h
  refine Subscript_ (thn (he pins s σ H _ I h) fun v s1 ⟨x, H1, I1, r1, q1⟩ => ?_)
  refine wpAny_Slice (thn (hl pins s1 σ H1 _ I1 q1) fun vl s2 ⟨l, H2, I2, pl, q2⟩ => thn (hu pins s2 σ H2 _ I2 q2) fun vu s3 ⟨u, H3, I3, pu, q3⟩ => ?_)
  rw [evalPart_none]
  refine wpAny_pure ?_
  have I4 : Inv X pins σ H3 { s3 with heap := s3.heap.push { cls := .type "slice", data := .fields #[vl, vu, .none] } } := I3.kept (t' := s3.toks) fun b ob q => Heap.get?_push_of_some _ q
  obtain ⟨T, id, hT, ht, hg⟩ := hr pins { s3 with heap := s3.heap.push { cls := .type "slice", data := .fields #[vl, vu, .none] } } σ H3 x v vl vu l u s3.heap.objs.size Q I4 r1 (Heap.IsSliceOf.new ..) pl pu q3
  show wpAny (model X.prog X.w) X.A (subscriptTail e (.Slice lo hi none p2) v (.ref s3.heap.objs.size)) (EP X pins σ Q) X.xe { s3 with heap := s3.heap.push { cls := .type "slice", data := .fields #[vl, vu, .none] } }
  exact tail_any (ops := [.ref s3.heap.objs.size, v]) ht hT hg (by with_unfolding_all rfl)

/-- the items of xs[lo:hi] -/
def cutV (xs : List V) (lo hi : Option Int) : List V := (xs.drop (HT.sIx xs.length 0 lo)).take (HT.sIx xs.length xs.length hi - HT.sIx xs.length 0 lo)
theorem cutV_length (xs : List V) (lo hi : Option Int) : (cutV xs lo hi).length ≤ xs.length := by
  unfold cutV
  rw [List.length_take, List.length_drop]
  omega

/-! ### t < u, t + u -/
end
end L2

namespace L2
open PySem PySem.Spec PyProof.Rows

/-! ### places -/
/-- the place that an index of any sign means -/
def ixN (n : Nat) (i : Int) : Option Nat := if 0 ≤ i then (if i < n then some i.toNat else none) else if -(n : Int) ≤ i then some (i + n).toNat else none
def atI {α : Type} (xs : List α) (i : Int) : Option α := (ixN xs.length i).bind fun j => xs[j]?
theorem ixN_seq {n : Nat} {i : Int} {j : Nat} (h : ixN n i = some j) : seqIndex? i n = some j ∧ j < n ∧ -(n : Int) ≤ i ∧ i < n := by
  unfold ixN at h
  by_cases h0 : 0 ≤ i
  · rw [if_pos h0] at h
    by_cases h1 : i < n
    · rw [if_pos h1] at h
      have e : i.toNat = j := Option.some.inj h
      exact ⟨by rw [seqIndex_of h0 h1, e], by omega, by omega, h1⟩
    · rw [if_neg h1] at h; cases h
  · rw [if_neg h0] at h
    by_cases h1 : -(n : Int) ≤ i
    · rw [if_pos h1] at h
      have e : (i + n).toNat = j := Option.some.inj h
      exact ⟨by rw [seqIndex_neg (by omega) h1, e], by omega, h1, by omega⟩
    · rw [if_neg h1] at h; cases h
theorem atI_get {α : Type} {xs : List α} {i : Int} {v : α} (h : atI xs i = some v) : ∃ j, seqIndex? i xs.length = some j ∧ xs[j]? = some v ∧ j < xs.length ∧ -(xs.length : Int) ≤ i ∧ i < xs.length := by
  unfold atI at h
  cases e : ixN xs.length i with
  | none => rw [e] at h; cases h
  | some j =>
    rw [e] at h
    obtain ⟨h1, h2, h3, h4⟩ := ixN_seq e
    exact ⟨j, h1, h, h2, h3, h4⟩
theorem atI_nat {α : Type} {xs : List α} {j : Nat} {v : α} (h : xs[j]? = some v) : atI xs (j : Int) = some v := by
  have hj : j < xs.length := (List.getElem?_eq_some_iff.mp h).1
  have e : ixN xs.length (j : Int) = some j := by
    unfold ixN
    rw [if_pos (by omega), if_pos (by omega)]; simp
  unfold atI; rw [e]; exact h
theorem atI_last {α : Type} (xs : List α) (v : α) : atI (xs ++ [v]) (-1) = some v := by
  have hl : (xs ++ [v]).length = xs.length + 1 := by simp
  have e : ixN (xs ++ [v]).length (-1) = some xs.length := by
    unfold ixN
    rw [hl, if_neg (by decide), if_pos (by omega)]
    congr 1
    omega
  unfold atI
  rw [e]
  show (xs ++ [v])[xs.length]? = some v
  simp

/-! ### what may be subscripted -/
/-- what stands as an index of a plain subscript -/
def PlainIx (b : Expr) : Prop := ∀ o i, subscripted b false o i = operate [o, i] (getItem o i)
/-- a subscript by values -/
def IxR (X : Cx) (r : R2) : Prop :=
  ∀ (value slice : Expr) (pins : List (Addr × Obj)) (s : Shared) (σ : St) (H : Hp) (x y : V) (v u : Value) (Q : VK), Inv X pins σ H s → RelV x v → RelV y u → r x y H Q →
    subscripted slice false v u = operate [v, u] (getItem v u) → wpAny (model X.prog X.w) X.A (subscriptTail value slice v u) (EP X pins σ Q) X.xe s
section
variable {X : Cx} {a b : Expr} {ta tb : TE} {pos : Pos}
/-- a[b] -/
theorem pe_ix {r : R2} (hr : IxR X r) (ha : PE X a ta) (hb : PE X b tb) (hs : PlainIx b) : PE X (.Subscript a b pos) (tOp r ta tb) := by
  intro pins s σ H Q I h
  exact Subscript_ (binT ha hb I h fun v u s2 x y H2 I2 rx ry q => hr a b pins s2 σ H2 x y v u Q I2 rx ry q (hs _ _))

def rIxL (K : PySem.W.Frag) : R2 := fun x y H Q => ∃ p xs i v, x = .ref p ∧ y = .int i ∧ SqL K H p xs ∧ atI xs i = some v ∧ Q v H
def rIxT (K : PySem.W.Frag) : R2 := fun x y H Q => ∃ p xs i v, x = .ref p ∧ y = .int i ∧ SqT K H p xs ∧ atI xs i = some v ∧ Q v H
theorem ix_list : IxR X (rIxL X.K) := by
  intro value slice pins s σ H x y v u Q I rx ry h hs
  obtain ⟨p, xs, i, z, rfl, rfl, hq, he, q⟩ := h
  cases rx
  obtain ⟨t, rfl⟩ := ry
  obtain ⟨its, r, pl, hz⟩ := I.list hq
  obtain ⟨j, h1, h2, h3, h4, h5⟩ := atI_get he
  obtain ⟨w, ew, rw'⟩ := r.get h2
  have hl := r.length
  have hn := line63
  have fin : EP X pins σ Q w s := ⟨z, H, I, rw', q⟩
  by_cases h0 : 0 ≤ i
  · have hj : i.toNat = j := by
      rw [seqIndex_of h0 h5] at h1
      exact Option.some.inj h1
    exact item_listR pl.isList h0 (by omega) (by rw [hj]; simpa using ew) fin hs
  · have hj : (i + (its.toArray.size : Int)).toNat = j := by
      rw [seqIndex_neg (by omega) h4] at h1
      rw [List.size_toArray, ← hl]
      exact Option.some.inj h1
    exact subscriptTail_builtinR (x := w) pl.isList.typeIs slot_list_getitem.lookup
      (wpAny_getItem_list_neg (Q := fun r s' => r = w ∧ EP X pins σ Q r s') pl.isList (by omega) (by rw [List.size_toArray] <;> omega) (by omega) (by rw [hj]; simpa using ew) ⟨rfl, fin⟩) hs
theorem ix_tup : IxR X (rIxT X.K) := by
  intro value slice pins s σ H x y v u Q I rx ry h hs
  obtain ⟨p, xs, i, z, rfl, rfl, hq, he, q⟩ := h
  cases rx
  obtain ⟨t, rfl⟩ := ry
  obtain ⟨its, r, pl, hz⟩ := I.tuple hq
  obtain ⟨j, h1, h2, h3, h4, h5⟩ := atI_get he
  obtain ⟨w, ew, rw'⟩ := r.get h2
  have hl := r.length
  have hn := line63
  have fin : EP X pins σ Q w s := ⟨z, H, I, rw', q⟩
  exact subscriptTail_builtinR (x := w) pl.typeIs slot_tuple_getitem.lookup
    (getItem_tuple (j := j) (Q := fun r s' => r = w ∧ EP X pins σ Q r s') pl (by omega) (by omega) (by rw [List.size_toArray, ← hl]; exact h1) (by simpa using ew) ⟨rfl, fin⟩) hs

/-! ### xs[i] = v, any sign -/

/-! ### slices -/
theorem slice_bounds (lo hi : Option Int) (n : Nat) : (sliceBounds lo hi none n).1 = ((HT.sIx n 0 lo : Nat) : Int) ∧ (sliceBounds lo hi none n).2.1 = ((HT.sIx n n hi : Nat) : Int) ∧ (sliceBounds lo hi none n).2.2 = 1 := by
  refine ⟨?_, ?_, rfl⟩
  · cases lo with
    | none => simp [sliceBounds, HT.sIx]
    | some i =>
      simp only [sliceBounds, HT.sIx, Option.getD_none, show (1 : Int) > 0 by decide, if_true]
      by_cases h : i < 0
      · simp only [h, if_true] <;> omega
      · simp only [h, if_false] <;> omega
  · cases hi with
    | none => simp [sliceBounds, HT.sIx]
    | some i =>
      simp only [sliceBounds, HT.sIx, Option.getD_none, show (1 : Int) > 0 by decide, if_true]
      by_cases h : i < 0
      · simp only [h, if_true] <;> omega
      · simp only [h, if_false] <;> omega
theorem slicePick_cut (its : List Value) (lo hi : Option Int) : slicePick its.toArray lo hi none = ((its.drop (HT.sIx its.length 0 lo)).take (HT.sIx its.length its.length hi - HT.sIx its.length 0 lo)).toArray := by
  obtain ⟨h1, h2, h3⟩ := slice_bounds lo hi its.toArray.size
  unfold slicePick
  rw [h1, h2, h3]
  simp only [sliceRange_one, pick_run, List.size_toArray] <;> rfl
/-- xs[lo:hi] of a list: a new list -/
def rSlL (K : PySem.W.Frag) : V → Option Int → Option Int → Hp → VK → Prop := fun x lo hi H Q => ∃ a xs, x = .ref a ∧ SqL K H a xs ∧ ∀ p, H p = none → Q (.ref p) (upd H p (.lst (cutV xs lo hi)))
theorem sl_list : SlR X (rSlL X.K) := by
  intro pins s σ H x v vl vu lo hi sl Q I rx hs pl pu h
  obtain ⟨a, xs, rfl, hx, q⟩ := h
  cases rx
  obtain ⟨its, r, ht, hz⟩ := I.list hx
  have hlen := r.length
  refine ⟨"list", _, slot_list_getitem.lookup, ht.isList.typeIs, ?_⟩
  refine wpAny_getItem_list_slice ht.isList hs pl pu .none (by simp) ?_ (by rw [List.size_toArray] <;> omega)
  rw [slicePick_cut, ← hlen]
  refine ⟨.ref s.heap.objs.size, _, I.laid (t' := s.toks) (o := .lst (cutV xs lo hi)) (fun b ob q => Heap.get?_push_of_some _ q) (Nat.le_refl _) ?_, rfl, q _ (I.hok.fresh (Nat.le_refl _))⟩
  exact ⟨Nat.le_trans (cutV_length xs lo hi) hz, _, 0, (r.drop (HT.sIx xs.length 0 lo)).take (HT.sIx xs.length xs.length hi - HT.sIx xs.length 0 lo), Heap.get?_push_size _ rfl⟩

/-! ### in, not in: flat items -/

/-! ### len, list(x), tuple(x) of any list or tuple that is read -/
theorem call_len_seq : CallR X (.builtin "len") (fun xs H Q => ∃ p ys, xs = [.ref p] ∧ (SqL X.K H p ys ∨ SqT X.K H p ys) ∧ Q (.int ys.length) H) := by
  intro pins s σ H xs us Q I r h
  obtain ⟨p, ys, rfl, hq, q⟩ := h
  obtain ⟨u, rfl, rx⟩ := vals1 r
  cases rx
  have hn := line63
  rcases hq with hq | hq
  · obtain ⟨its, r', pl, hz⟩ := I.list hq
    have hlen := r'.length
    exact Calls.call_len_list pl.isList (by simp only [List.size_toArray] <;> omega) ⟨.int ys.length, H, I.tok _, ⟨s.toks + 1, by rw [List.size_toArray, hlen]⟩, q⟩
  · obtain ⟨its, r', pl, hz⟩ := I.tuple hq
    have hlen := r'.length
    exact len_tuple pl (by simp only [List.size_toArray] <;> omega) ⟨.int ys.length, H, I.tok _, ⟨s.toks + 1, by rw [List.size_toArray, hlen]⟩, q⟩

/-! ### the call of a builtin's method: o.m(..) -/
variable {o e : Expr} {es : List Expr} {to : TE} {t : TA} {name : Str} {apos cpos : Pos} {T id : String} {r : V → List V → Hp → VK → Prop}
/- xs.append(e), list.index on a module's tuple .. are MtR facts of 06m -/
end
end L2

namespace L2
open PySem PySem.Spec PyProof.Rows

/-! ### lists of values -/

section
variable {X : Cx} {pins : List (Addr × Obj)} {σ : St} {H : Hp} {s : Shared} {l b : Addr} {xs ys zs : List V}

/-! ### the two steps: a tracked list is rewritten, a new list is laid -/
theorem Inv.lnew {its : List Value} {t' : Nat} (I : Inv X pins σ H s) (hv : Vals ys its) (hz : ys.length ≤ sizeLine) :
    Inv X pins σ (upd H s.heap.objs.size (.lst ys)) { s with heap := s.heap.push { cls := .type "list", data := .seq its.toArray }, toks := t' } :=
  I.laid (fun _ _ q => Heap.get?_push_of_some _ q) (Nat.le_refl _) ⟨hz, its, 0, hv, Heap.get?_push_size _ rfl⟩
theorem Inv.fresh (I : Inv X pins σ H s) : H s.heap.objs.size = none := I.hok.fresh (Nat.le_refl _)
theorem Inv.lstM (I : Inv X pins σ H s) (hH : H l = some (.lst xs)) : xs.length ≤ sizeLine ∧ ∃ (its : List Value) (n : Nat), Vals xs its ∧ xs.length = its.length ∧ s.heap.get? l = some { cls := .type "list", data := .seq its.toArray n } := by
  obtain ⟨z, its, n, r, e⟩ := I.hok l _ hH
  exact ⟨z, its, n, r, r.length, e⟩

end

section
variable {X : Cx}

/-! ### methods -/

/-! ### list + list, list += list, list * int -/
def rCat : R2 := fun x y H Q => ∃ l b xs zs, x = .ref l ∧ y = .ref b ∧ H l = some (.lst xs) ∧ H b = some (.lst zs) ∧ xs.length + zs.length ≤ sizeLine ∧ ∀ p, H p = none → Q (.ref p) (upd H p (.lst (xs ++ zs)))
theorem op_cat : OpR X (binaryOp .Add) rCat := by
  intro pins s σ H x y v u Q I rx ry h
  obtain ⟨l, b, xs, zs, rfl, rfl, hH, hB, hz, q⟩ := h
  cases rx
  cases ry
  obtain ⟨z, its, n, r, hl, e⟩ := I.lstM hH
  obtain ⟨z2, its2, n2, r2, hl2, e2⟩ := I.lstM hB
  refine PySem.P.add_list e e2 ?_ (by rw [List.size_toArray, List.size_toArray]; omega)
  have ea : its.toArray ++ its2.toArray = (its ++ its2).toArray := by simp
  rw [ea]
  exact ⟨.ref _, _, I.lnew (t' := s.toks) (r.append r2) (by rw [List.length_append]; omega), rfl, q _ I.fresh⟩

/-! ### del xs[i] -/
end

/-! ### xs[a:b] = ys -/
section
variable {prog : Program} {w : World} {A : Around} {E : Value → Shared → Prop} {s : Shared}
end

section
variable {X : Cx}
end
end L2

namespace L2
open PySem PySem.Spec PyProof.Rows

theorem Vals.bls : ∀ {bs : List Bool} {us : List Value}, Vals (bs.map V.bl) us → us = bs.map Value.bool
  | [], us, h => by
    rw [List.map_nil] at h
    cases h
    rfl
  | b :: bs, us, h => by
    rw [List.map_cons] at h
    cases h with
    | cons r t =>
      cases r
      rw [Vals.bls t, List.map_cons]
theorem Vals.ref1 {a : Addr} {us : List Value} (r : Vals [V.ref a] us) : us = [Value.ref a] := by
  cases r with
  | cons r t =>
    cases t
    cases r
    rfl

/-! ### the library's walks over a list of ints, kept objects alone -/
section
variable {prog : Program} {w : World} {A : Around} {E : Value → Shared → Prop} {s : Shared} {l : Addr} {its : List Value} {ns : List Int} {Q : Value → Shared → Prop}
end

/-! ### the calls, by values (CallR of 03t; MtR of 06l) -/
section
variable {X : Cx}

/-! sorted, sort (fewer than 64 items: the library's own bound) -/
end

/-! ### list.index, flat items -/
section
variable {X : Cx}
end

/-! ### type(x) of an own instance; is, is not of a module's class -/
section
variable {X : Cx}
end

/-! ### any(xs), all(xs) of a list of bools -/
theorem iter_any {prog : Program} {w : World} {A : Around} {E : Value → Shared → Prop} {s : Shared} {l : Addr} {items : Array Value} {Q : Value → Shared → Prop} (hl : s.heap.IsList l items)
    (h : ∀ s₂ : Shared, s₂ = { s with heap := s.heap.push { cls := .type "list_iterator", data := .fields #[.ref l, .int 0 0] } } →
      (s₂.heap.IsListIter s.heap.objs.size l 0 ∧ s₂.heap.IsList l items) → l ≠ s.heap.objs.size → Q (.ref s.heap.objs.size) s₂) : wpAny (model prog w) A (pyIter (.ref l)) Q E s := by
  have hlt : l < s.heap.objs.size := by obtain ⟨_, e, _⟩ := hl; exact Heap.lt_size e
  exact wpAny_pyIter_list hl (h _ rfl ⟨⟨_, Heap.get?_push_size _ rfl, rfl, rfl⟩, hl.push _⟩ (Nat.ne_of_lt hlt))
theorem truth_bools {prog : Program} {w : World} {A : Around} {bs : List Bool} {its : List Value} (e : its = bs.map Value.bool) :
    TruthOf prog w A (fun i v => its.toArray[i]? = some v) (fun i => bs.getD i false) := fun i v s Q E hv hq => by
  have hv' : its[i]? = some v := by simpa using hv
  rw [e, List.getElem?_map] at hv'
  obtain ⟨b, hb, rfl⟩ := Option.map_eq_some_iff.mp hv'
  have hg : bs.getD i false = b := by rw [List.getD_eq_getElem?_getD, hb] <;> rfl
  have hq' : Q (bs.getD i false) s := hq
  rw [hg] at hq'
  exact wpAny_truthy_bool hq'
theorem all_range : ∀ bs : List Bool, (List.range bs.length).all (fun i => bs.getD i false) = bs.all id
  | [] => rfl
  | b :: bs => by
    rw [List.length_cons, List.range_succ_eq_map, List.all_cons, List.all_map, List.all_cons, ← all_range bs]
    all_goals rfl
section
variable {X : Cx}
def rAll (K : PySem.W.Frag) : List V → Hp → VK → Prop := fun vs H Q => ∃ (a : Addr) (bs : List Bool), vs = [V.ref a] ∧ SqL K H a (bs.map V.bl) ∧ Q (.bl (bs.all id)) H
theorem cr_all (hc : X.calm = true) : CallR X (.builtin "all") (rAll X.K) := by
  intro pins s σ H vs us Q I r h
  obtain ⟨a, bs, rfl, hs, q⟩ := h
  obtain ⟨its, rv, hl, _⟩ := I.list hs
  rw [Vals.ref1 r]
  have hb := rv.bls
  refine call_all_walk (iter_any hl.isList fun s₂ e2 st hne => ?_)
  subst e2
  refine ⟨_, _, _, _, _, _, _, rfl, Walks.list (A := X.A.in1) (I.ok.hd hc) _ a hne its.toArray, st, truth_bools hb, fun h' tk hk => ?_⟩
  refine ⟨.bl _, H, I.kept fun b o eo => hk b o (fun hmem => ?_) (Heap.get?_push_of_some _ eo), ?_, q⟩
  · rcases List.mem_cons.mp hmem with e1 | hmem
    · exact absurd (e1 ▸ Heap.lt_size eo) (Nat.lt_irrefl _)
    · cases hmem
  · show Value.bool _ = Value.bool _
    rw [← all_range, hb, List.size_toArray, List.length_map]
end

/-! ### == and != of data at any depth: none, bools, ints, texts, lists, tuples -/
section
variable {X : Cx} {pins : List (Addr × Obj)} {σ : St} {H : Hp} {s : Shared}
end
section
variable {X : Cx}
end
end L2

namespace L2
open PySem PySem.Spec PyProof.Rows
abbrev CellAt (h : Heap) (c : Addr) (v : Option Value) : Prop := h.IsCell c v
def relS (scope sc : Scope) : Scope :=
  { scope with names := scope.names.map fun (n, k) => if (k == .free && sc.kind == .function && sc.names.lookup n == some .cell) then (n, .cell) else (n, k) }

def cloFrom (cells : List (Str × Addr)) : List (Str × NameKind) → List (Str × Addr) → List (Str × Addr)
  | [], acc => acc
  | (n, k) :: r, acc => if k == .free then cloFrom cells r ((n, (cells.lookup n).getD 0) :: acc) else cloFrom cells r acc

theorem closure_loop (env : Env) (f : Str × NameKind → List (Str × Addr) → Sem (ForInStep (List (Str × Addr))))
    (hf : ∀ n k c, f (n, k) c = if k == .free then (do let a ← cellOf env n; pure (.yield ((n, a) :: c))) else pure (.yield c)) :
    ∀ (names : List (Str × NameKind)) (acc : List (Str × Addr)), (∀ y ∈ names, y.2 = .free → ∃ c, env.cells.lookup y.1 = some c) → forIn names acc f = pure (cloFrom env.cells names acc)
  | [], acc, _ => by rw [List.forIn_nil]; rfl
  | (n, k) :: r, acc, h => by
    rw [List.forIn_cons, hf]
    have ih := fun acc => closure_loop env f hf r acc fun y hy => h y (List.mem_cons_of_mem _ hy)
    unfold cloFrom
    by_cases hk : (k == NameKind.free) = true
    · rw [if_pos hk, if_pos hk]
      obtain ⟨c, hc⟩ := h (n, k) List.mem_cons_self (by simpa using hk)
      have e : cellOf env n = pure c := by unfold cellOf; rw [hc]
      rw [e]
      have e2 : (env.cells.lookup n).getD 0 = c := by rw [hc]; rfl
      rw [e2]
      exact ih _
    · rw [if_neg hk, if_neg hk]
      exact ih _
theorem closure_ok {scope : Scope} {env : Env} (h : ∀ y ∈ scope.names, y.2 = .free → ∃ c, env.cells.lookup y.1 = some c) : closureFor scope env = pure (cloFrom env.cells scope.names []) := by
  simp only [closureFor]
  rw [closure_loop env _ (fun n k c => rfl) scope.names [] h]
  rfl

theorem mem_lookup {α : Type} : ∀ {l : List (Str × α)} {n : Str} {c : α}, (n, c) ∈ l → ∃ c', l.lookup n = some c'
  | (k, v) :: r, n, c, h => by
    rw [List.lookup_cons]
    cases hb : n == k with
    | true => exact ⟨_, rfl⟩
    | false =>
      rcases List.mem_cons.mp h with e | h
      · cases e; simp at hb
      · exact mem_lookup h

theorem cloFrom_mem {cells : List (Str × Addr)} : ∀ {names : List (Str × NameKind)} {acc : List (Str × Addr)} {n : Str} {c : Addr}, (n, c) ∈ cloFrom cells names acc → (n, c) ∈ acc ∨ ((n, .free) ∈ names ∧ c = (cells.lookup n).getD 0)
  | [], _, _, _, h => .inl h
  | (m, k) :: r, acc, n, c, h => by
    unfold cloFrom at h
    split at h
    · rename_i hk
      have hk : k = .free := by simpa using hk
      rcases cloFrom_mem h with h | ⟨h1, h2⟩
      · rcases List.mem_cons.mp h with e | h
        · cases e; exact .inr ⟨hk ▸ List.mem_cons_self, rfl⟩
        · exact .inl h
      · exact .inr ⟨List.mem_cons_of_mem _ h1, h2⟩
    · rcases cloFrom_mem h with h | ⟨h1, h2⟩
      · exact .inl h
      · exact .inr ⟨List.mem_cons_of_mem _ h1, h2⟩
theorem cloFrom_acc {cells : List (Str × Addr)} : ∀ {names : List (Str × NameKind)} {acc : List (Str × Addr)} {p : Str × Addr}, p ∈ acc → p ∈ cloFrom cells names acc
  | [], _, _, h => h
  | (m, k) :: r, acc, p, h => by
    unfold cloFrom
    split
    · exact cloFrom_acc (List.mem_cons_of_mem _ h)
    · exact cloFrom_acc h
theorem cloFrom_has {cells : List (Str × Addr)} : ∀ {names : List (Str × NameKind)} {acc : List (Str × Addr)} {n : Str}, (n, .free) ∈ names → (n, (cells.lookup n).getD 0) ∈ cloFrom cells names acc
  | (m, k) :: r, acc, n, h => by
    unfold cloFrom
    rcases List.mem_cons.mp h with e | h
    · cases e
      exact cloFrom_acc List.mem_cons_self
    · split
      · exact cloFrom_has h
      · exact cloFrom_has h

theorem cells_mem : ∀ {names : List (Str × NameKind)} {h : Heap} {acc : List (Str × Addr)} {x : Str} {c : Addr}, (x, c) ∈ cellsFrom h.objs.size names acc →
    (x, c) ∈ acc ∨ ((x, .cell) ∈ names ∧ h.objs.size ≤ c ∧ CellAt (pushCells h names) c none)
  | [], _, _, _, _, h => .inl h
  | (n, k) :: r, h, acc, x, c, hm => by
    unfold cellsFrom at hm
    unfold pushCells
    split at hm
    · rename_i hk
      rw [if_pos hk]
      have hk : k = .cell := by simpa using hk
      rw [← Heap.size_push h { cls := .type "cell", data := .cell none }] at hm
      rcases cells_mem hm with hm | ⟨h1, h2, h3⟩
      · rcases List.mem_cons.mp hm with e | hm
        · cases e
          exact .inr ⟨hk ▸ List.mem_cons_self, Nat.le_refl _, _, pushCells_keeps r _ _ _ (Heap.get?_push_size _ rfl), rfl⟩
        · exact .inl hm
      · rw [Heap.size_push] at h2
        exact .inr ⟨List.mem_cons_of_mem _ h1, Nat.le_of_succ_le h2, h3⟩
    · rename_i hk
      rw [if_neg hk]
      rcases cells_mem hm with hm | ⟨h1, h2, h3⟩
      · exact .inl hm
      · exact .inr ⟨List.mem_cons_of_mem _ h1, h2, h3⟩
theorem cells_acc : ∀ {names : List (Str × NameKind)} {n : Nat} {acc : List (Str × Addr)} {p : Str × Addr}, p ∈ acc → p ∈ cellsFrom n names acc
  | [], _, _, _, h => h
  | (m, k) :: r, n, acc, p, h => by
    unfold cellsFrom
    split
    · exact cells_acc (List.mem_cons_of_mem _ h)
    · exact cells_acc h
theorem cells_has : ∀ {names : List (Str × NameKind)} {n : Nat} {acc : List (Str × Addr)} {x : Str}, (x, .cell) ∈ names → ∃ c, (x, c) ∈ cellsFrom n names acc
  | (m, k) :: r, n, acc, x, h => by
    unfold cellsFrom
    rcases List.mem_cons.mp h with e | h
    · cases e
      exact ⟨n, cells_acc List.mem_cons_self⟩
    · split
      · exact cells_has h
      · exact cells_has h
theorem cells_inj : ∀ {names : List (Str × NameKind)} {h : Heap} {acc : List (Str × Addr)} {x y : Str} {c : Addr}, (∀ p ∈ acc, p.2 < h.objs.size) → (∀ x y c, (x, c) ∈ acc → (y, c) ∈ acc → x = y) →
    (x, c) ∈ cellsFrom h.objs.size names acc → (y, c) ∈ cellsFrom h.objs.size names acc → x = y
  | [], _, _, _, _, _, _, hi, h1, h2 => hi _ _ _ h1 h2
  | (n, k) :: r, h, acc, x, y, c, hl, hi, h1, h2 => by
    unfold cellsFrom at h1 h2
    split at h1
    · rename_i hk
      rw [if_pos hk] at h2
      rw [← Heap.size_push h { cls := .type "cell", data := .cell none }] at h1 h2
      refine cells_inj (h := h.push _) (fun p hp => ?_) (fun x y c a b => ?_) h1 h2
      · rw [Heap.size_push]
        rcases List.mem_cons.mp hp with rfl | hp
        · exact Nat.lt_succ_self _
        · exact Nat.lt_succ_of_lt (hl p hp)
      · rcases List.mem_cons.mp a with e | a <;> rcases List.mem_cons.mp b with e' | b
        · cases e; cases e'; rfl
        · cases e; exact absurd (hl _ b) (Nat.lt_irrefl _)
        · cases e'; exact absurd (hl _ a) (Nat.lt_irrefl _)
        · exact hi _ _ _ a b
    · rename_i hk
      rw [if_neg hk] at h2
      exact cells_inj hl hi h1 h2

theorem newEnv_comp {M : Model} {A : Around} {E : Value → Shared → Prop} {s : Shared} {scope : Scope} {globals : Addr} {closure : List (Str × Addr)} {qual : Str} {func : Option Addr} {code : Value} {around : Env} {builtins : Addr} {Q : Env → Shared → Prop}
    (h : Q (newEnv scope s.heap.objs.size globals (cellsFrom (s.heap.objs.size + 1) scope.names closure) qual func code (some around) builtins)
      { s with heap := pushCells (s.heap.push { cls := .type "dict", data := .dict #[] }) scope.names }) :
    wpAny M A (newFunctionEnv scope globals closure [] qual func code (some around) builtins) Q E s := by
  simp only [newFunctionEnv, Option.isSome_some, if_true]
  refine wpAny_bind (wpAny_alloc ?_)
  refine wpAny_bind (wpAny_layCells _ (fun n k c => rfl) scope.names closure _ _ ?_)
  rw [show ({ s with heap := s.heap.push { cls := .type "dict", data := .dict #[] } } : Shared).heap.objs.size = s.heap.objs.size + 1 from Heap.size_push ..]
  rw [List.forIn_nil]
  exact wpAny_bind (wpAny_pure (wpAny_pure h))

/-- every name of the written scope, in the scope that runs -/
theorem lookup_relS {sc : Scope} : ∀ {names : List (Str × NameKind)} {x : Str} {k : NameKind},
    (names.map fun (n, k) => if (k == NameKind.free && sc.kind == .function && sc.names.lookup n == some .cell) then (n, NameKind.cell) else (n, k)).lookup x = some k →
    ∃ k', names.lookup x = some k' ∧ (k = k' ∨ (k' = .free ∧ k = .cell))
  | [], _, _, h => by simp at h
  | (n, k₀) :: r, x, k, h => by
    have ih := @lookup_relS sc r x k
    have h' : List.lookup x ((if (k₀ == NameKind.free && sc.kind == .function && sc.names.lookup n == some .cell) = true then (n, NameKind.cell) else (n, k₀)) :: (r.map _)) = some k := h
    cases hx : x == n with
    | true =>
      simp only [List.lookup_cons, hx]
      by_cases hc : (k₀ == NameKind.free && sc.kind == .function && sc.names.lookup n == some .cell) = true
      · rw [if_pos hc] at h'
        simp only [List.lookup_cons, hx] at h'
        cases h'
        simp only [Bool.and_eq_true, beq_iff_eq] at hc
        exact ⟨k₀, rfl, .inr ⟨hc.1.1, rfl⟩⟩
      · rw [if_neg hc] at h'
        simp only [List.lookup_cons, hx] at h'
        cases h'
        exact ⟨_, rfl, .inl rfl⟩
    | false =>
      simp only [List.lookup_cons, hx]
      by_cases hc : (k₀ == NameKind.free && sc.kind == .function && sc.names.lookup n == some .cell) = true
      · rw [if_pos hc] at h'
        simp only [List.lookup_cons, hx] at h'
        exact ih h'
      · rw [if_neg hc] at h'
        simp only [List.lookup_cons, hx] at h'
        exact ih h'

/-- the names of a comprehension's block: its own (with their places in N), or captured -/
structure BlkOk (N : List Str) (sc scope : Scope) (own : List (Str × Nat)) : Prop where
  kind : scope.kind = .function
  uniq : ∀ y ∈ scope.names, scope.names.lookup y.1 = some y.2
  ix : ∀ p ∈ own, N[p.2]? = some p.1
  free : ∀ y ∈ scope.names, y.2 = .free → sc.names.lookup y.1 = some .cell ∨ sc.names.lookup y.1 = some .free
  own : ∀ y ∈ scope.names, y.2 = .local ∨ y.2 = .cell → y.1 ∈ own.map (·.1) ∨ y.1 ∉ N
/-- the slots of the block's own names forgotten -/
def wipe (σ : St) : List Nat → St
  | [] => σ
  | v :: vs => (wipe σ vs).set v none
theorem wipe_length (σ : St) : ∀ vs : List Nat, (wipe σ vs).length = σ.length
  | [] => rfl
  | v :: vs => by unfold wipe; rw [List.length_set, wipe_length σ vs]
theorem wipe_some {σ : St} {i : Nat} {x : V} : ∀ {vs : List Nat}, (wipe σ vs)[i]? = some (some x) → σ[i]? = some (some x) ∧ i ∉ vs
  | [], h => ⟨h, by simp⟩
  | v :: vs, h => by
    unfold wipe at h
    by_cases hi : v = i
    · subst hi
      by_cases hv : v < (wipe σ vs).length
      · rw [List.getElem?_set_self hv] at h; cases h
      · rw [List.getElem?_eq_none (by simpa using hv)] at h; cases h
    · rw [List.getElem?_set_ne hi] at h
      obtain ⟨h1, h2⟩ := wipe_some h
      exact ⟨h1, by simp only [List.mem_cons, not_or]; exact ⟨fun e => hi e.symm, h2⟩⟩

/-- the context of a block that starts at s, its iterator's objects at fp -/
abbrev Cx.blk (X : Cx) (s : Shared) (H : Hp) (scope : Scope) (cenv : Env) (fp : List Addr) : Cx := { X with s_0 := s, H_0 := H, env := cenv, outer := X.stack, ex := fp, fn := fun x => scope.names.lookup x == some .cell, pn := [], xe := fun _ _ => False }
section
variable {X : Cx} {pins : List (Addr × Obj)} {σ : St} {H : Hp} {s : Shared}
theorem block_start {scope : Scope} {own : List (Str × Nat)} {fp : List Addr} (I : Inv X pins σ H s) (ok : BlkOk X.N X.env.scope scope own) (hN : X.N.Nodup) (hfp : ∀ b ∈ fp, FpOk X pins H b ∧ b < s.heap.objs.size) :
    Inv (X.blk s H scope (compEnvC scope (cellsFrom (s.heap.objs.size + 1) scope.names (cloFrom X.env.cells scope.names [])) s.heap.objs.size X.env) fp) [] (wipe σ (own.map (·.2))) H { s with heap := pushCells (s.heap.push { cls := .type "dict", data := .dict #[] }) scope.names } := by
  have hfree : ∀ y ∈ scope.names, y.2 = .free → ∃ c, X.env.cells.lookup y.1 = some c := fun y hy e => by
    rcases ok.free y hy e with k | k
    · exact I.ok.has _ (.inl k)
    · exact I.ok.has _ (.inr k)
  generalize hcenv : compEnvC scope (cellsFrom (s.heap.objs.size + 1) scope.names (cloFrom X.env.cells scope.names [])) s.heap.objs.size X.env = cenv
  have kp : ∀ b o, s.heap.get? b = some o → (pushCells (s.heap.push { cls := .type "dict", data := .dict #[] }) scope.names).get? b = some o := fun b o e => pushCells_keeps _ _ _ _ (Heap.get?_push_of_some _ e)
  have hL : cenv.locals = s.heap.objs.size := by rw [← hcenv]; rfl
  have hcl : cenv.cells = cellsFrom (s.heap.objs.size + 1) scope.names (cloFrom X.env.cells scope.names []) := by rw [← hcenv]; rfl
  have hsc : cenv.scope = relS scope X.env.scope := by rw [← hcenv]; rfl
  rw [← Heap.size_push s.heap { cls := .type "dict", data := .dict #[] }] at hcl
  have cm : ∀ {y c}, (y, c) ∈ cloFrom X.env.cells scope.names [] → X.env.cells.lookup y = some c ∧ c < s.heap.objs.size := fun {y c} hm => by
    rcases cloFrom_mem hm with hm | ⟨h1, rfl⟩
    · cases hm
    · obtain ⟨c, hc⟩ := hfree _ h1 rfl
      rw [hc]
      obtain ⟨w, z⟩ := I.cell _ _ hc
      exact ⟨rfl, z.lt⟩
  have mem : ∀ {y c}, cenv.cells.lookup y = some c → (X.env.cells.lookup y = some c ∧ c < s.heap.objs.size) ∨ (s.heap.objs.size + 1 ≤ c ∧ CellAt (pushCells (s.heap.push { cls := .type "dict", data := .dict #[] }) scope.names) c none) := fun {y c} e => by
    rw [hcl] at e
    rcases cells_mem (PySem.mem_of_lookup e) with hm | ⟨_, h2, h3⟩
    · exact .inl (cm hm)
    · rw [Heap.size_push] at h2; exact .inr ⟨h2, h3⟩
  have look : ∀ {y}, scope.names.lookup y = some .free → ∃ c, cenv.cells.lookup y = some c ∧ X.env.cells.lookup y = some c := fun {y} hl => by
    have hy : (y, NameKind.free) ∈ scope.names := PySem.mem_of_lookup hl
    obtain ⟨c', e'⟩ := mem_lookup (cells_acc (names := scope.names) (n := (s.heap.push { cls := .type "dict", data := .dict #[] }).objs.size) (cloFrom_has (cells := X.env.cells) (acc := []) hy))
    rw [← hcl] at e'
    refine ⟨c', e', ?_⟩
    rw [hcl] at e'
    rcases cells_mem (PySem.mem_of_lookup e') with hm | ⟨h1, _, _⟩
    · exact (cm hm).1
    · have := ok.uniq _ h1
      rw [hl] at this; cases this
  have okB : (X.blk s H scope cenv fp).Ok := by
    refine ⟨I.ok.mod, by show cenv.scope.kind = _; rw [hsc]; exact ok.kind, by show cenv.globals = _; rw [← hcenv]; exact I.ok.glob, by show cenv.builtins = _; rw [← hcenv]; exact I.ok.blt, by show s.heap.objs.size ≤ cenv.locals; rw [hL]; exact Nat.le_refl _,
      fun y z c e1 e2 => ?_, fun y hy => ?_, fun y c z e => ?_, I.ok.hd, I.ok.frames, .inl rfl, fun b hb => ⟨?_, fun y c e z => ?_⟩, I.bs, Nat.le_trans I.ok.bsz I.sz, fun b o e hb => ?_, fun b hb z => ?_, I.stack, I.stkFree⟩
    · have e1 : cenv.cells.lookup y = some c := e1
      have e2 : cenv.cells.lookup z = some c := e2
      rw [hcl] at e1 e2
      refine cells_inj (fun p hp => ?_) (fun y z c a b => I.ok.inj y z c (cm a).1 (cm b).1) (PySem.mem_of_lookup e1) (PySem.mem_of_lookup e2)
      rw [Heap.size_push]
      exact Nat.lt_succ_of_lt (cm (y := p.1) (c := p.2) hp).2
    · show ∃ c, cenv.cells.lookup y = some c
      have key : ∀ k, cenv.kindOf y = some k → (k = .cell ∨ k = .free) → ∃ c, cenv.cells.lookup y = some c := fun k hk hk' => by
        unfold Env.kindOf at hk
        rw [hsc] at hk
        obtain ⟨k', e, r⟩ := lookup_relS hk
        have : k' = .cell ∨ k' = .free := by
          rcases r with rfl | ⟨rfl, _⟩
          · exact hk'
          · exact .inr rfl
        rcases this with rfl | rfl
        · obtain ⟨c, hm⟩ := cells_has (n := (s.heap.push { cls := .type "dict", data := .dict #[] }).objs.size) (acc := cloFrom X.env.cells scope.names []) (PySem.mem_of_lookup e)
          obtain ⟨c', e'⟩ := mem_lookup hm
          exact ⟨c', by rw [hcl]; exact e'⟩
        · obtain ⟨c, h1, _⟩ := look e
          exact ⟨c, h1⟩
      rcases hy with hy | hy
      · exact key _ hy (.inl rfl)
      · exact key _ hy (.inr rfl)
    · have z : (scope.names.lookup y == some NameKind.cell) = true := z
      have z : scope.names.lookup y = some .cell := by simpa using z
      have e : cenv.cells.lookup y = some c := e
      rw [hcl] at e
      rcases cells_mem (PySem.mem_of_lookup e) with hm | ⟨_, h2, _⟩
      · rcases cloFrom_mem hm with hm | ⟨h1, _⟩
        · cases hm
        · have q := ok.uniq _ h1
          rw [z] at q; cases q
      · rw [Heap.size_push] at h2
        exact Nat.le_of_succ_le h2
    · show b ≠ cenv.locals
      rw [hL]; exact Nat.ne_of_lt (hfp b hb).2
    · have e : cenv.cells.lookup y = some c := e
      rcases mem e with ⟨h1, _⟩ | ⟨h1, _⟩
      · exact (hfp b hb).1.2.2.2.2.1 y c h1 z
      · have h2 : s.heap.objs.size + 1 ≤ b := by rw [← z]; exact h1
        exact absurd (Nat.lt_of_lt_of_le (hfp b hb).2 (Nat.le_of_succ_le h2)) (Nat.lt_irrefl _)
    · rcases (hfp b hb).1.2.2.2.1 with z | z
      · exact I.ok.noex b o e z
      · exact absurd (Nat.lt_of_lt_of_le (Heap.lt_size e) (Nat.le_trans I.ok.bsz z)) (Nat.lt_irrefl _)
    · rcases List.mem_cons.mp (I.stkSub b z) with z | z
      · exact (hfp b hb).1.2.1 z
      · exact (hfp b hb).1.2.2.1 z
  refine ⟨okB, rfl, I.bare, Un.kept kp, ⟨fun _ => none, ?_, fun i y av e1 e2 e3 => ?_⟩, fun y c e => ?_, ?_, fun y c e => ?_, fun p hp => ?_, I.hok.kept kp, by rw [wipe_length]; exact I.len⟩
  · show Heap.Ns _ cenv.locals _
    rw [hL]
    exact Heap.Ns.keeps (Heap.Ns.new ..) fun b o e => pushCells_keeps _ _ _ _ e
  · obtain ⟨e2, hne⟩ := wipe_some e2
    have hfr : scope.names.lookup y = some .free ∧ (cenv.kindOf y = some .cell ∨ cenv.kindOf y = some .free) := by
      have key : ∀ k, cenv.scope.names.lookup y = some k → k = .local ∨ k = .cell ∨ k = .free → scope.names.lookup y = some .free ∧ (cenv.kindOf y = some .cell ∨ cenv.kindOf y = some .free) := fun k hk hk' => by
        have hk0 := hk
        rw [hsc] at hk
        obtain ⟨k', e, r⟩ := lookup_relS hk
        have no : ¬ (k' = .local ∨ k' = .cell) := fun hh => by
          rcases ok.own _ (PySem.mem_of_lookup e) hh with e' | e'
          · obtain ⟨p, hp, hpy⟩ := List.mem_map.mp e'
            have e3 := ok.ix p hp
            have : p.1 = y := hpy
            rw [this] at e3
            exact hne (List.mem_map.mpr ⟨p, hp, nodup_ix hN e3 e1⟩)
          · exact e' (List.mem_of_getElem? e1)
        rcases r with rfl | ⟨rfl, rfl⟩
        · rcases hk' with rfl | rfl | rfl
          · exact absurd (.inl rfl) no
          · exact absurd (.inr rfl) no
          · exact ⟨e, .inr hk0⟩
        · exact ⟨e, .inl hk0⟩
      have e3 : Vis cenv.scope y := e3
      rcases e3 with e3 | e3 | e3
      · exact key _ e3 (.inl rfl)
      · exact key _ e3 (.inr (.inl rfl))
      · exact key _ e3 (.inr (.inr rfl))
    obtain ⟨m, hn, hl⟩ := I.loc
    have hvis : Vis X.env.scope y := (ok.free _ (PySem.mem_of_lookup hfr.1) rfl).elim (fun k => .inr (.inl k)) (fun k => .inr (.inr k))
    obtain ⟨w, r, q⟩ := hl i y av e1 e2 hvis
    refine ⟨w, r, .inr ⟨hfr.2, ?_⟩⟩
    obtain ⟨c, h1, h2⟩ := look hfr.1
    rcases q with ⟨k, _⟩ | ⟨_, c', e', z⟩
    · have k : X.env.scope.names.lookup y = some .local := k
      rcases ok.free _ (PySem.mem_of_lookup hfr.1) rfl with k' | k' <;> rw [show X.env.scope.names.lookup y = _ from k'] at k <;> cases k
    · rw [h2] at e'; cases e'
      exact ⟨c, h1, z.keeps kp⟩
  · have e : cenv.cells.lookup y = some c := e
    rcases mem e with ⟨h1, _⟩ | ⟨_, z⟩
    · obtain ⟨w, z⟩ := I.cell y c h1
      exact ⟨w, z.keeps kp⟩
    · exact ⟨_, z⟩
  · show H cenv.locals = none
    rw [hL]; exact I.hok.fresh (Nat.le_refl _)
  · have e : cenv.cells.lookup y = some c := e
    rcases mem e with ⟨h1, _⟩ | ⟨h1, _⟩
    · exact I.freeC y c h1
    · exact I.hok.fresh (Nat.le_of_succ_le h1)
  · exact absurd (show p ∈ ([] : List (Addr × Obj)) ++ [] from hp) (by simp)

/-- an item appended to a tracked list -/
theorem app_ok {E : Value → Shared → Prop} {D : Addr} {xs : List V} {y : V} {v : Value} {Q : Value → Shared → Prop} (I : Inv X pins σ H s) (hD : H D = some (.lst xs)) (hz : xs.length < sizeLine) (r : RelV y v)
    (h : ∀ s', Inv X pins σ (upd H D (.lst (xs ++ [y]))) s' → Q .none s') : wpAny (model X.prog X.w) X.A (call (.builtin "list.append") [.ref D, v]) Q E s := by
  obtain ⟨hz', its, n, ri, e⟩ := I.hok D _ hD
  have hl := ri.length
  refine append_at (hsz := by rw [List.size_toArray]; omega) e fun h' sb ho' => ?_
  refine h { s with heap := h' } (I.write (t' := s.toks) (by rw [hD]; trivial) (.inl rfl) (fun b u hb q => (sb.2 b hb).trans q) ⟨_, ho'⟩ ⟨by rw [List.length_append]; exact hz, its ++ [v], n + 1, ri.append (.cons r .nil), ?_⟩)
  rw [ho']
  simp

/-- a clause's tests -/
def PTs (X : Cx) (ifs : List Expr) (t : TT) : Prop :=
  ∀ (pins : List (Addr × Obj)) (s : Shared) (σ : St) (H : Hp) (Q : Bool → Hp → Prop), Inv X pins σ H s → t σ H Q →
    wpAny (model X.prog X.w) X.A (forIn ifs true fun c r => if r = true then do let ok ← isTrue c X.env (eval c X.env); pure (ForInStep.yield ok) else pure (ForInStep.yield r)) (TP X pins σ Q) X.xe s
def tYes : TT := fun _ H Q => Q true H
theorem pts_nil : PTs X [] tYes := fun _ _ _ H _ I h => wpAny_tests_nil ⟨H, I, h⟩
theorem pts_one {c : Expr} {t : TT} (h : PT X c t) : PTs X [c] t := fun pins s σ H Q I hw => wpAny_tests_one (h pins s σ H Q I hw)
end

theorem thnF {α : Type} {t : Sem α} {Q Q' : α → Shared → Prop} {M : Model} {A : Around} {E : Value → Shared → Prop} {s : Shared} (h : wpAny M A t Q (fun _ _ => False) s) (hQ : ∀ a s, Q a s → Q' a s) : wpAny M A t Q' E s := wpAny_mono h hQ fun _ _ z => False.elim z

/-- the loop of a list comprehension's block, the target of any form (codeAny_compLoop_tests asks a target that no tuple goes to; statement and proof follow it, PyProof/CompMap.lean:41-61, with the step letOwnedTupleGo kept) -/
theorem compLoop_any {prog : Program} {w : World} {A : Around} {R : Result → Shared → Prop} {s : Shared} {elt target iter : Expr} {ifs : List Expr} {scope : Scope} {pos : Pos} {it acc : Value} {env : Env} (I : Nat → Shared → Prop)
    (turn : ∀ n s, I n s → wpAny (model prog w) A (pyNext it) (fun r s₁ => match r with
      | none => R (.ok .next) s₁
      | some v => wpAny (model prog w) A (letOwnedTupleGo target it v) (fun _ s₁' => wpAny (model prog w) A (assign target env v) (fun _ s₂ =>
          wpAny (model prog w) A (forIn ifs true fun c r => if r = true then do let ok ← isTrue c env (eval c env); pure (ForInStep.yield ok) else pure (ForInStep.yield r)) (fun ok s₃ =>
            if ok = true then wpAny (model prog w) A (eval elt env) (fun x s₄ =>
              wpAny (model prog w) A (call (.builtin "list.append") [acc, x]) (fun _ s₅ => ∃ m, m < n ∧ I m s₅) (notedBy (model prog w) A env fun e s' => R (.error e) s') s₄) (notedBy (model prog w) A env fun e s' => R (.error e) s') s₃
            else ∃ m, m < n ∧ I m s₃) (notedBy (model prog w) A env fun e s' => R (.error e) s') s₂) (notedBy (model prog w) A env fun e s' => R (.error e) s') s₁') (notedBy (model prog w) A env fun e s' => R (.error e) s') s₁) (notedBy (model prog w) A env fun e s' => R (.error e) s') s)
    (n : Nat) (h : I n s) :
    codeAny (model prog w) A (.compLoop (.ListComp elt [⟨target, iter, ifs, 0⟩] scope pos) 0 it acc env) R s := by
  refine codeAny_loop rfl I (fun n s hI => ?_) n h
  show wpAny _ A ((compTurn (.ListComp elt [⟨target, iter, ifs, 0⟩] scope pos) 0 it acc env).onRaise (fun x => do noteFrame x env; theTreesLotGoes x)) _ _ s
  refine wpAny_noted ?_
  rw [compTurn_list]
  refine wpAny_bind (wpAny_standAt (wpAny_bind (wpAny_mono (turn n s hI) (fun r s₁ h₁ => ?_) fun _ _ h' => h')))
  cases r with
  | none => exact wpAny_pure h₁
  | some v =>
    refine wpAny_bind (wpAny_mono h₁ (fun _ s₁' h₁' => ?_) fun _ _ h' => h')
    refine wpAny_bind (wpAny_mono h₁' (fun _ s₂ h₂ => wpAny_bind (wpAny_mono h₂ (fun ok s₃ h₃ => ?_) fun _ _ h' => h')) fun _ _ h' => h')
    cases ok with
    | false => exact wpAny_pure ⟨rfl, h₃⟩
    | true =>
      exact wpAny_bind (wpAny_bind (wpAny_mono h₃ (fun x s₄ h₄ => wpAny_bind (wpAny_mono h₄ (fun _ s₅ h₅ => wpAny_pure (wpAny_pure ⟨rfl, h₅⟩)) fun _ _ h' => h')) fun _ _ h' => h'))

section
variable {X : Cx}
/-- [elt for target in iter if ..]: D the new list; W by the turn and a measure, Nx what a turn is to reach -/
def tLc (wi : TI) (g : TG) (tt : TT) (te : TE) (vs : List Nat) : TE := fun σ H Q => wi σ H fun J H1 => ∀ D, H1 D = none → ∃ W : Nat → Nat → Hp → Prop, (∃ m, W 0 m (upd H1 D (.lst []))) ∧ ∀ i m H, W i m H →
  (J.stop i H ∧ Q (.ref D) H) ∨ (J.go i H ∧ ∃ Nx : Hp → Prop, (∀ H', Nx H' → ∃ m', m' < m ∧ W (i + 1) m' H') ∧ ∀ x H', J.yld i H x H' → g x (wipe σ vs) H' fun σ2 H2 => wipe σ2 vs = wipe σ vs ∧ tt σ2 H2 fun b H3 =>
    if b = true then te σ2 H3 fun y H4 => ∃ acc, H4 D = some (.lst acc) ∧ acc.length < sizeLine ∧ Nx (upd H4 D (.lst (acc ++ [y]))) else Nx H3)
theorem lc_core {pins : List (Addr × Obj)} {s : Shared} {σ : St} {H : Hp} {Q : VK} {elt tg iter : Expr} {ifs : List Expr} {scope : Scope} {own : List (Str × Nat)} {pos pos' : Pos} {wi : TI} {g : TG} {tt : TT} {te : TE} {use : Option (Value → Sem Unit)} {Qf : Value → Shared → Prop}
    (hc : X.calm = true) (hN : X.N.Nodup) (I : Inv X pins σ H s) (hi : PI X tg iter wi) (ok : BlkOk X.N X.env.scope scope own)
    (hg : ∀ (s : Shared) (H : Hp) (C : Addr) (cl : List (Str × Addr)) (fp : List Addr), PG (X.blk s H scope (compEnvC scope cl C X.env) fp) tg g) (ht : ∀ (s : Shared) (H : Hp) (C : Addr) (cl : List (Str × Addr)) (fp : List Addr), PTs (X.blk s H scope (compEnvC scope cl C X.env) fp) ifs tt)
    (he : ∀ (s : Shared) (H : Hp) (C : Addr) (cl : List (Str × Addr)) (fp : List Addr), PE (X.blk s H scope (compEnvC scope cl C X.env) fp) elt te) (hs : ∀ x, foldedSetIterable iter X.env x = pure x)
    (h : tLc wi g tt te (own.map (·.2)) σ H Q)
    (hRR : ∀ D C s' m H', Inv X pins σ H' s' → Q (.ref D) H' → s'.heap.Ns C m → FpOk X pins H' C → compPost (model X.prog X.w) X.A X.xe use Qf (.ref D) C (.ok .next) s') :
    wpAny (model X.prog X.w) X.A (comprehension (.ListComp elt [⟨tg, iter, ifs, 0⟩] scope pos) scope X.env pos' (newList []) false (eval iter X.env) use) Qf X.xe s := by
  have hfree : ∀ y ∈ scope.names, y.2 = .free → ∃ c, X.env.cells.lookup y.1 = some c := fun y hy e => by
    rcases ok.free y hy e with k | k
    · exact I.ok.has _ (.inl k)
    · exact I.ok.has _ (.inr k)
  refine wpAny_comprehension_free (use := use) rfl hs (closure_ok hfree) ok.kind (fun y hy e => by rw [ok.uniq y hy, e])
    (thn (hi pins s σ H _ I h) fun xv s1 hx => thn hx fun itv s2 h2 => ?_)
  obtain ⟨it, fp, tn, J, H2, e, I2, T, st2, f2, q⟩ := h2
  subst e
  refine wpAny_newObj_type (newEnv_comp ?_) (by show 0 ≤ sizeLine; decide)
  generalize hD : s2.heap.objs.size = D
  have hDn : H2 D = none := I2.hok.fresh (Nat.le_of_eq hD)
  obtain ⟨W, ⟨m0, w0⟩, turn⟩ := q D hDn
  -- the new list
  generalize hs3 : ({ s2 with heap := s2.heap.push { cls := .type "list", data := .seq ([] : List Value).toArray } } : Shared) = s3
  have I3 : Inv X pins σ (upd H2 D (.lst [])) s3 := by
    rw [← hs3]
    refine I2.laid (t' := s2.toks) (fun b o e => Heap.get?_push_of_some _ e) (Nat.le_of_eq hD) ⟨Nat.zero_le _, [], 0, .nil, ?_⟩
    rw [← hD]
    exact Heap.get?_push_size _ rfl
  have h3 : s3.heap = s2.heap.push { cls := .type "list", data := .seq ([] : List Value).toArray } := by rw [← hs3]
  have sz : ∀ b ∈ fp, b < s2.heap.objs.size := fun b hb => by
    obtain ⟨o, e, _⟩ := T.obj _ _ st2 b hb
    exact Heap.lt_size e
  have f3 : ∀ b ∈ fp, FpOk X pins (upd H2 D (.lst [])) b ∧ b < s3.heap.objs.size := fun b hb => by
    have hlt := sz b hb
    refine ⟨⟨?_, (f2 b hb).2⟩, by rw [h3, Heap.size_push]; exact Nat.lt_succ_of_lt hlt⟩
    rw [upd_ne (by rw [← hD]; exact Nat.ne_of_lt hlt)]
    exact (f2 b hb).1
  have st3 : tn 0 s3.heap := T.keep _ _ _ st2 fun b _ o e => by rw [h3]; exact Heap.get?_push_of_some _ e
  have I4 := block_start I3 ok hN f3
  have pg := hg s3 (upd H2 D (.lst [])) s3.heap.objs.size (cellsFrom (s3.heap.objs.size + 1) scope.names (cloFrom X.env.cells scope.names [])) fp
  have pt := ht s3 (upd H2 D (.lst [])) s3.heap.objs.size (cellsFrom (s3.heap.objs.size + 1) scope.names (cloFrom X.env.cells scope.names [])) fp
  have pe := he s3 (upd H2 D (.lst [])) s3.heap.objs.size (cellsFrom (s3.heap.objs.size + 1) scope.names (cloFrom X.env.cells scope.names [])) fp
  show codeAny _ _ (.compStart (.ListComp elt [⟨tg, iter, ifs, 0⟩] scope pos) 0 (.ref it) (.ref D) (compEnvC scope (cellsFrom (s3.heap.objs.size + 1) scope.names (cloFrom X.env.cells scope.names [])) s3.heap.objs.size X.env)) (compPost (model X.prog X.w) X.A X.xe use Qf (.ref D) s3.heap.objs.size) { s3 with heap := pushCells (s3.heap.push { cls := .type "dict", data := .dict #[] }) scope.names }
  have nfp : ∀ b ∈ fp, (upd H2 D (.lst [])) b = none := fun b hb => (f3 b hb).1.1
  generalize hce : compEnvC scope (cellsFrom (s3.heap.objs.size + 1) scope.names (cloFrom X.env.cells scope.names [])) s3.heap.objs.size X.env = ce at I4 pg pt pe ⊢
  have cL : ce.locals = s3.heap.objs.size := by subst hce; rfl
  generalize hH3 : upd H2 D (.lst []) = H3 at I3 I4 pg pt pe w0 nfp f3
  generalize hs4 : ({ s3 with heap := pushCells (s3.heap.push { cls := .type "dict", data := .dict #[] }) scope.names } : Shared) = s4 at I4 ⊢
  have st4 : tn 0 s4.heap := T.keep _ _ _ st3 fun b _ o e => by rw [← hs4]; exact pushCells_keeps _ _ _ _ (Heap.get?_push_of_some _ e)
  have stat : ∀ {σ' : St} {H' : Hp} {s' : Shared}, Inv (X.blk s3 H3 scope ce fp) [] σ' H' s' → (∀ b ∈ fp, H' b = none) → ∀ b ∈ fp, FpOk (X.blk s3 H3 scope ce fp) [] H' b := fun {σ' H' s'} I' hn b hb =>
    ⟨hn b hb, (I'.ok.exf b hb).1, I'.ok.exfs b hb, .inl hb, fun x c e => (I'.ok.exf b hb).2 x c e, fun p hp => absurd (show p ∈ ([] : List (Addr × Obj)) ++ [] from hp) (by simp)⟩
  have loop : codeAny (model X.prog X.w) X.A (.compLoop (.ListComp elt [⟨tg, iter, ifs, 0⟩] scope pos) 0 (.ref it) (.ref D) ce) (compPost (model X.prog X.w) X.A X.xe use Qf (.ref D) s3.heap.objs.size) s4 := by
    refine compLoop_any (fun n s' => ∃ i H', Inv (X.blk s3 H3 scope ce fp) [] (wipe σ (own.map (·.2))) H' s' ∧ tn i s'.heap ∧ (∀ b ∈ fp, H' b = none) ∧ W i n H') ?_ m0 ⟨0, H3, I4, st4, nfp, w0⟩
    rintro n s5 ⟨i, H5, I5, st5, n5, w5⟩
    rcases turn i n H5 w5 with ⟨stop, qq⟩ | ⟨go, Nx, hNx, step⟩
    · have td := T.done (X.blk s3 H3 scope ce fp) rfl rfl rfl hc i [] s5 _ H5 (fun _ _ => False) I5 (stat I5 n5) st5 stop
      refine thnF td fun r s6 ⟨hr, I6⟩ => ?_
      subst hr
      -- back in the def's context
      have I7 : Inv X pins σ H5 s6 := I3.call' (ch := fp) I6.os I6.base I6.hok I6.bare fun b hb => ⟨(f3 b hb).1.2.2.2.1, (f3 b hb).1.2.1, (f3 b hb).1.2.2.2.2.1, (f3 b hb).1.2.2.2.2.2⟩
      have nC : H5 s3.heap.objs.size = none := by
        have z : H5 ce.locals = none := I6.free
        rw [cL] at z
        exact z
      obtain ⟨m, hn, _⟩ := I6.loc
      have hn : s6.heap.Ns ce.locals m := hn
      rw [cL] at hn
      exact hRR D s3.heap.objs.size s6 m H5 I7 qq hn (I3.fpOk (Nat.le_refl _) nC)
    · have ti := T.item (X.blk s3 H3 scope ce fp) rfl rfl rfl hc i [] s5 _ H5 (fun _ _ => False) I5 (stat I5 n5) st5 go
      refine thnF ti fun r s6 ⟨u, hr, h6⟩ => ?_
      subst hr
      refine thnF h6 fun _ s7 ⟨x, H7, I7, r7, y7, st7, n7⟩ => ?_
      have I7' := I7.pinned (stat I7 n7) (T.obj _ _ st7)
      refine thnF (pg _ s7 _ H7 x u _ I7' r7 (step x H7 y7)) fun _ s8 ⟨σ8, H8, I8, hw8, q8⟩ => ?_
      refine thnF (pt _ s8 σ8 H8 _ I8 q8) fun b s9 ⟨H9, I9, q9⟩ => ?_
      -- the turn's end
      have fin : ∀ {s' : Shared} {H' : Hp}, Inv (X.blk s3 H3 scope ce fp) ([] ++ pinsAt fp s7.heap) σ8 H' s' → Nx H' → ∃ m, m < n ∧ ∃ i H', Inv (X.blk s3 H3 scope ce fp) [] (wipe σ (own.map (·.2))) H' s' ∧ tn i s'.heap ∧ (∀ b ∈ fp, H' b = none) ∧ W i m H' := fun {s' H'} I' nx => by
        obtain ⟨m', hm, w'⟩ := hNx H' nx
        have pin' : ∀ b ∈ fp, ∀ o, s7.heap.get? b = some o → s'.heap.get? b = some o ∧ H' b = none := fun b hb o e =>
          let z := I'.pin (b, o) (List.mem_append_right _ (List.mem_append_right _ (mem_pinsAt hb e)))
          ⟨z.1, z.2.1⟩
        have hl : (wipe σ (own.map (·.2))).length = σ8.length := by rw [← hw8, wipe_length]
        refine ⟨m', hm, i + 1, H', (I'.unpinned (pins := [])).weak hl (fun j v e => ?_), T.keep _ _ _ st7 fun b hb o e => (pin' b hb o e).1, fun b hb => ?_, w'⟩
        · rw [← hw8] at e
          exact (wipe_some e).1
        · obtain ⟨o, e, _⟩ := T.obj _ _ st7 b hb
          exact (pin' b hb o e).2
      cases b with
      | false =>
        simp only [Bool.false_eq_true, if_false] at q9 ⊢
        exact fin I9 q9
      | true =>
        simp only [if_true] at q9 ⊢
        refine thnF (pe _ s9 σ8 H9 _ I9 q9) fun z s10 ⟨yv, H10, I10, r10, acc, hD10, hz10, nx⟩ => ?_
        exact app_ok (X := X.blk s3 H3 scope ce fp) I10 hD10 hz10 r10 fun s11 I11 => fin I11 nx
  exact codeAny_compStart_list loop (T.self X.A 0 _ _ _ st4 loop)
/-- as a value -/
theorem pe_lc {elt tg iter : Expr} {ifs : List Expr} {scope : Scope} {own : List (Str × Nat)} {pos : Pos} {wi : TI} {g : TG} {tt : TT} {te : TE} (hc : X.calm = true) (hN : X.N.Nodup) (hi : PI X tg iter wi) (ok : BlkOk X.N X.env.scope scope own)
    (hg : ∀ (s : Shared) (H : Hp) (C : Addr) (cl : List (Str × Addr)) (fp : List Addr), PG (X.blk s H scope (compEnvC scope cl C X.env) fp) tg g) (ht : ∀ (s : Shared) (H : Hp) (C : Addr) (cl : List (Str × Addr)) (fp : List Addr), PTs (X.blk s H scope (compEnvC scope cl C X.env) fp) ifs tt)
    (he : ∀ (s : Shared) (H : Hp) (C : Addr) (cl : List (Str × Addr)) (fp : List Addr), PE (X.blk s H scope (compEnvC scope cl C X.env) fp) elt te) (hs : ∀ x, foldedSetIterable iter X.env x = pure x := by intro _; rfl) :
    PE X (.ListComp elt [⟨tg, iter, ifs, 0⟩] scope pos) (tLc wi g tt te (own.map (·.2))) := by
  intro pins s σ H Q I h
  rw [eval_ListComp]
  refine lc_core hc hN I hi ok hg ht he hs h fun D C s' m H' I' q hn f => ⟨m, hn, fun h'' sb => ?_⟩
  obtain ⟨f0, f1, f2, f3, f4, f5⟩ := f
  exact ⟨.ref D, H', I'.turned (t' := s'.toks) (fun b o hb e => (sb.2 b hb).trans e) f0 f1 f3 f4 f5, rfl, q⟩
end

/-! ### the forms one uses -/
/-- over a range: Pv by the turn and the heap (the new list at D within) -/
theorem lc_range {lo : Int} {n : Nat} {g : TG} {tt : TT} {te : TE} {vs : List Nat} {σ : St} {H1 : Hp} {D : Addr} {Qd : Hp → Prop} (Pv : Nat → Hp → Prop) (h0 : Pv 0 (upd H1 D (.lst [])))
    (hs : ∀ i H, i < n → Pv i H → g (.int (lo + i)) (wipe σ vs) H fun σ2 H2 => wipe σ2 vs = wipe σ vs ∧ tt σ2 H2 fun b H3 =>
      if b = true then te σ2 H3 fun y H4 => ∃ acc, H4 D = some (.lst acc) ∧ acc.length < sizeLine ∧ Pv (i + 1) (upd H4 D (.lst (acc ++ [y]))) else Pv (i + 1) H3) (hd : ∀ H, Pv n H → Qd H) :
    ∃ W : Nat → Nat → Hp → Prop, (∃ m, W 0 m (upd H1 D (.lst []))) ∧ ∀ i m H, W i m H →
      ((Itr lo n).stop i H ∧ Qd H) ∨ ((Itr lo n).go i H ∧ ∃ Nx : Hp → Prop, (∀ H', Nx H' → ∃ m', m' < m ∧ W (i + 1) m' H') ∧ ∀ x H', (Itr lo n).yld i H x H' → g x (wipe σ vs) H' fun σ2 H2 => wipe σ2 vs = wipe σ vs ∧ tt σ2 H2 fun b H3 =>
        if b = true then te σ2 H3 fun y H4 => ∃ acc, H4 D = some (.lst acc) ∧ acc.length < sizeLine ∧ Nx (upd H4 D (.lst (acc ++ [y]))) else Nx H3) := by
  refine ⟨fun i m H => m = n - i ∧ i ≤ n ∧ Pv i H, ⟨n, by simp, Nat.zero_le _, h0⟩, ?_⟩
  rintro i m H ⟨rfl, hi, p⟩
  by_cases hlt : i < n
  · refine .inr ⟨hlt, Pv (i + 1), fun H' p' => ⟨n - (i + 1), by omega, rfl, hlt, p'⟩, fun x H' y => ?_⟩
    obtain ⟨e, y⟩ := y
    subst e y
    exact hs i _ hlt p
  · have e : i = n := by omega
    subst e
    exact .inl ⟨Nat.le_refl _, hd H p⟩
/-- over a list that the block leaves as it is -/
theorem lc_list {K : PySem.W.Frag} {a : Addr} {xs : List V} {g : TG} {tt : TT} {te : TE} {vs : List Nat} {σ : St} {H1 : Hp} {D : Addr} {Qd : Hp → Prop} (Pv : Nat → Hp → Prop) (h0 : Pv 0 (upd H1 D (.lst []))) (hl : ∀ i H, i ≤ xs.length → Pv i H → SqL K H a xs)
    (hs : ∀ i x H, xs[i]? = some x → Pv i H → g x (wipe σ vs) H fun σ2 H2 => wipe σ2 vs = wipe σ vs ∧ tt σ2 H2 fun b H3 =>
      if b = true then te σ2 H3 fun y H4 => ∃ acc, H4 D = some (.lst acc) ∧ acc.length < sizeLine ∧ Pv (i + 1) (upd H4 D (.lst (acc ++ [y]))) else Pv (i + 1) H3) (hd : ∀ H, Pv xs.length H → Qd H) :
    ∃ W : Nat → Nat → Hp → Prop, (∃ m, W 0 m (upd H1 D (.lst []))) ∧ ∀ i m H, W i m H →
      ((Itl K a).stop i H ∧ Qd H) ∨ ((Itl K a).go i H ∧ ∃ Nx : Hp → Prop, (∀ H', Nx H' → ∃ m', m' < m ∧ W (i + 1) m' H') ∧ ∀ x H', (Itl K a).yld i H x H' → g x (wipe σ vs) H' fun σ2 H2 => wipe σ2 vs = wipe σ vs ∧ tt σ2 H2 fun b H3 =>
        if b = true then te σ2 H3 fun y H4 => ∃ acc, H4 D = some (.lst acc) ∧ acc.length < sizeLine ∧ Nx (upd H4 D (.lst (acc ++ [y]))) else Nx H3) := by
  refine ⟨fun i m H => m = xs.length - i ∧ i ≤ xs.length ∧ Pv i H, ⟨xs.length, by simp, Nat.zero_le _, h0⟩, ?_⟩
  rintro i m H ⟨rfl, hi, p⟩
  have q := hl i H hi p
  by_cases hlt : i < xs.length
  · refine .inr ⟨⟨xs, xs[i], q, by simp [hlt]⟩, Pv (i + 1), fun H' p' => ⟨xs.length - (i + 1), by omega, rfl, hlt, p'⟩, fun x H' y => ?_⟩
    obtain ⟨e, y⟩ := y
    subst e
    exact hs i x _ (y xs q) p
  · have e : i = xs.length := by omega
    subst e
    exact .inl ⟨⟨xs, q, Nat.le_refl _⟩, hd H p⟩
def blkC (N : List Str) (sc scope : Scope) (own : List (Str × Nat)) : Bool :=
  (match scope.kind with | .function => true | _ => false) && (scope.names.all fun y => decide (scope.names.lookup y.1 = some y.2)) && (own.all fun p => decide (N[p.2]? = some p.1)) &&
    (scope.names.all fun y => match y.2 with
      | .free => (match sc.names.lookup y.1 with | some .cell => true | some .free => true | _ => false)
      | .local => decide (y.1 ∈ own.map (·.1)) || decide (y.1 ∉ N)
      | .cell => decide (y.1 ∈ own.map (·.1)) || decide (y.1 ∉ N)
      | _ => true)
theorem blkOk_by {N : List Str} {sc scope : Scope} {own : List (Str × Nat)} (h : blkC N sc scope own = true) : BlkOk N sc scope own := by
  unfold blkC at h
  simp only [Bool.and_eq_true, List.all_eq_true, decide_eq_true_eq] at h
  obtain ⟨⟨⟨h1, h2⟩, h3⟩, h4⟩ := h
  refine ⟨?_, h2, h3, fun y hy e => ?_, fun y hy e => ?_⟩
  · split at h1
    · assumption
    · cases h1
  · have q := h4 y hy
    simp only [e] at q
    split at q <;> first | exact .inl (by assumption) | exact .inr (by assumption) | cases q
  · have q := h4 y hy
    rcases e with e | e <;> (simp only [e, Bool.or_eq_true, decide_eq_true_eq] at q; exact q)
end L2

namespace L2
open PySem PySem.Spec PyProof.Rows

section
variable {prog : Program} {w : World} {A : Around} {R : Result → Shared → Prop} {s : Shared} {elt t0 i0 t1 i1 : Expr} {ifs0 ifs1 : List Expr} {scope : Scope} {pos : Pos} {it acc : Value} {env : Env}
end

section
variable {X : Cx}
end
end L2

namespace L2
open PySem PySem.Spec PyProof.Rows

/-! ### lists of pairs as tables -/
section
variable {κ : Type} [DecidableEq κ]

end

/-! ### a tracked dict, its keys ints and texts or tuples of these -/

section
variable {P : Program} {w : World} {H : Hp} {h : Heap} {a : Addr}
end

section
variable {X : Cx} {pins : List (Addr × Obj)} {σ : St} {H : Hp} {s : Shared} {a : Addr} {y v : V} {u r : Value} {o : Option V} {A : Around} {E : Value → Shared → Prop}

end

section
variable {X : Cx} {pins : List (Addr × Obj)} {σ : St} {H : Hp} {s : Shared} {a : Addr} {kvs : List (Key × V)} {k : Key} {u : Value} {A : Around} {E : Value → Shared → Prop}
end

/-! ### readings and rules -/

section
variable {X : Cx} {o i e value : Expr} {pos pos' tpos : Pos} {td ty tv : TE}
end

/-! ### displays -/
section
variable {X : Cx} {pos : Pos}
end

/-! ### methods -/

section
variable {X : Cx} {pins : List (Addr × Obj)} {σ : St} {H : Hp} {s : Shared} {a : Addr} {y d : V} {u r : Value} {o : Option V} {A : Around} {E : Value → Shared → Prop}
end

section
variable {X : Cx} {o e f : Expr} {apos cpos : Pos} {td ty tx : TE}
end

/-! ### dict(d): a copy -/
section
variable {X : Cx} {pins : List (Addr × Obj)} {σ : St} {H : Hp} {s : Shared} {a : Addr} {kvs : List (Key × V)} {A : Around} {E : Value → Shared → Prop}
end

section
variable {X : Cx} {pins : List (Addr × Obj)} {σ : St} {H : Hp} {s : Shared} {a : Addr} {y : V} {u : Value} {A : Around} {E : Value → Shared → Prop}
end
end L2

namespace L2
open PySem PySem.Spec PyProof.Rows

section
variable {prog : Program} {w : World} {A : Around} {E : Value → Shared → Prop}

end

section
variable {X : Cx}
end
end L2

namespace L2
open PySem PySem.Spec PyProof.Rows

theorem boot_reversed5 : bootBuiltins "reversed" = some (.type "reversed") := by decide +kernel

section
variable {X : Cx} {pins : List (Addr × Obj)} {σ : St} {H : Hp} {s : Shared} {h' : Heap}
/-- several records of ours have turned -/
theorem Inv.turnedL {t' : Nat} {ch : List Addr} (I : Inv X pins σ H s) (k : ∀ b o, b ∉ ch → s.heap.get? b = some o → h'.get? b = some o) (hf : ∀ b ∈ ch, FpOk X pins H b) : Inv X pins σ H { s with heap := h', toks := t' } := by
  have nit : ∀ b u, H b = some u → b ∉ ch := fun b u e z => by
    have q := (hf b z).1
    rw [q] at e; cases e
  refine I.step (g' := s.gens) (d' := s.drawn) (ch := ch) (fun b hb => ⟨(hf b hb).2.2.2.1, (hf b hb).2.1, (hf b hb).2.2.2.2.1, (hf b hb).2.2.2.2.2⟩) (fun b o _ _ hc e _ => k b o hc e) (fun b o _ _ hc e _ => ⟨o.slots, k b o hc e⟩)
    (fun _ _ _ _ n => n) (fun b o hc e => ⟨o, k b o hc e⟩) (fun _ _ e => e) (fun _ _ _ e => e) (fun b ps e => ⟨#[], by rw [e]; simp⟩) (fun m hm => ?_) (fun b u e => ?_) I.bare
  · obtain ⟨o, es, ep, ho, r⟩ := hm
    exact ⟨o, es, ep, k _ o (fun z => (hf _ z).2.1 rfl) ho, r⟩
  · refine (I.hok b u e).stay (fun c v hc q => k c v ?_ q) (fun _ q => q) fun _ _ q => q
    rcases hc with z | z
    · rw [z]; exact nit b u e
    · exact nit c _ z
/-- .. and one new object is laid -/
theorem Inv.turnedNew {t' : Nat} {ch : List Addr} {T : Addr} {ob : HO} (I : Inv X pins σ H s) (k : ∀ b o, b ∉ ch → s.heap.get? b = some o → h'.get? b = some o) (hf : ∀ b ∈ ch, FpOk X pins H b) (hT : s.heap.objs.size ≤ T)
    (new : ObjOk X.prog X.w (upd H T ob) h' T ob) : Inv X pins σ (upd H T ob) { s with heap := h', toks := t' } := by
  have hn : H T = none := I.hok.fresh hT
  have nit : ∀ b u, H b = some u → b ∉ ch := fun b u e z => by
    have q := (hf b z).1
    rw [q] at e; cases e
  refine I.step (g' := s.gens) (d' := s.drawn) (ch := ch) (fun b hb => ⟨(hf b hb).2.2.2.1, (hf b hb).2.1, (hf b hb).2.2.2.2.1, (hf b hb).2.2.2.2.2⟩) (fun b o _ _ hc e _ => k b o hc e) (fun b o _ _ hc e _ => ⟨o.slots, k b o hc e⟩)
    (fun b o _ e n => ?_) (fun b o hc e => ⟨o, k b o hc e⟩) (fun b xs e => ?_) (fun b o u e => ?_) (fun b ps e => ⟨#[], ?_⟩) (fun m hm => ?_) (fun b u e => ?_) I.bare
  · rw [upd_ne (Nat.ne_of_lt (Nat.lt_of_lt_of_le (Heap.lt_size e) hT))]; exact n
  · rw [upd_ne (ne_of_none e hn)]; exact e
  · rw [upd_ne (ne_of_none e hn)]; exact e
  · rw [upd_ne (ne_of_none e hn), e]; simp
  · obtain ⟨o, es, ep, ho, r⟩ := hm
    exact ⟨o, es, ep, k _ o (fun z => (hf _ z).2.1 rfl) ho, r⟩
  · by_cases hb : b = T
    · subst hb
      rw [upd_same] at e
      cases e
      exact new
    · rw [upd_ne hb] at e
      refine (I.hok b u e).stay (fun c v hc q => k c v ?_ q) (fun c q => by rw [upd_ne (ne_of_none q hn)]; exact q) fun c xs q => by rw [upd_ne (ne_of_none q hn)]; exact q
      rcases hc with z | z
      · rw [z]; exact nit b u e
      · exact nit c _ z

/-! ### locking a thing while a statement runs -/
end
section
variable {X : Cx}

/-! ### one iterator just laid -/
theorem pi_one {tg : Expr} {pins : List (Addr × Obj)} {σ : St} {H : Hp} {s : Shared} {R : It → Hp → Prop} {J : It} {tn : Nat → Heap → Prop} {tk : Nat} (I : Inv X pins σ H s) (o : Obj)
    (T : Turn X.prog X.w X.K tg J [s.heap.objs.size] s.heap.objs.size tn) (st : tn 0 (s.heap.push o)) (q : R J H) : PIE X pins σ tg R (.ref s.heap.objs.size) { s with heap := s.heap.push o, toks := tk } := by
  refine ⟨s.heap.objs.size, [s.heap.objs.size], tn, J, H, rfl, I.kept fun b ob e => Heap.get?_push_of_some _ e, T, st, fun b hb => ?_, q⟩
  have e : b = s.heap.objs.size := by simpa using hb
  subst e
  exact I.fpOk (Nat.le_refl _) (I.hok.fresh (Nat.le_refl _))
end

/-! ### range with a step -/
section
variable {X : Cx} {tg : Expr}
end

/-! ### reversed(list) -/
/-- the list at a (n items at the start, which the loop leaves there), from its end -/
def Itv (K : PySem.W.Frag) (a : Addr) (n : Nat) : It :=
  ⟨fun i H => i < n ∧ ∃ (xs : List V) (x : V), SqL K H a xs ∧ xs[n - 1 - i]? = some x, fun i H x H' => H' = H ∧ ∀ xs, SqL K H a xs → xs[n - 1 - i]? = some x, fun i _ => n ≤ i⟩
theorem turn_rev {P : Program} {w : World} {K : PySem.W.Frag} {tg : Expr} (a it : Addr) (n : Nat) : Turn P w K tg (Itv K a n) [it] it (fun i h => i ≤ n ∧ h.IsRevIter it a ((n : Int) - 1 - (i : Nat))) where
  mem := by simp
  obj := fun i h st b hb => by
    have e : b = it := by simpa using hb
    subst e
    obtain ⟨_, o, e, c, d⟩ := st
    exact ⟨o, e, fun v z => by rw [d] at z; cases z⟩
  keep := fun i h h' st k => ⟨st.1, st.2.at fun o e => k it (by simp) o e⟩
  item := by
    intro X hP hw hK hc i pins s σ H E I hf st hg
    subst hP hw hK
    obtain ⟨hin, xs, x, hq, hx⟩ := hg
    obtain ⟨its, rv, p, hz⟩ := I.list hq
    obtain ⟨u, hu, ru⟩ := rv.get hx
    obtain ⟨f0, f1, f2, f3, f4, f5⟩ := hf it (by simp)
    obtain ⟨_, hit⟩ := st
    have e1 : (n : Int) - 1 - ((i : Nat) : Int) = ((n - 1 - i : Nat) : Int) := by omega
    rw [e1] at hit
    refine wpAny_pyNext_rev_item hit p.isList (x := u) (by simpa using hu) fun h' st' sb => ?_
    have e2 : ((n - 1 - i : Nat) : Int) - 1 = (n : Int) - 1 - ((i + 1 : Nat) : Int) := by omega
    rw [e2] at st'
    have I1 : Inv X pins σ H { s with heap := h' } := I.turned (t' := s.toks) (fun b o hb e => (sb.2 b hb).trans e) f0 f1 f3 f4 f5
    obtain ⟨o, e, c, d⟩ := id st'
    exact ⟨u, rfl, go_of (s := { s with heap := h' }) e c d (by decide) ⟨x, H, I1, ru, ⟨rfl, fun ys hy => by rw [I.list_inj hy hq]; exact hx⟩, ⟨hin, st'⟩, fun b hb => (hf b hb).1⟩⟩
  done := by
    intro X hP hw hK hc i pins s σ H E I hf st hg
    subst hP hw hK
    obtain ⟨f0, f1, f2, f3, f4, f5⟩ := hf it (by simp)
    obtain ⟨hin, hit⟩ := st
    have hge : n ≤ i := hg
    have e1 : (n : Int) - 1 - ((i : Nat) : Int) = -1 := by omega
    rw [e1] at hit
    exact wpAny_pyNext_rev_end (I.ok.hd hc) hit fun h' eb => ⟨rfl, I.turned (t' := s.toks) (fun b o hb e => eb b o hb e) f0 f1 f3 f4 f5⟩
  self := fun A i s Q E st h => wpAny_pyIter_revIter st.2 h
def iRev (K : PySem.W.Frag) (ta : TA) : TI := fun σ H R => ta σ H fun vs H1 => ∃ (a : Addr) (xs : List V), vs = [.ref a] ∧ SqL K H1 a xs ∧ R (Itv K a xs.length) H1
section
variable {X : Cx} {tg : Expr}
theorem pi_reversed {e : Expr} {ta : TA} {p pos : Pos} (hg : Gl X "reversed") (hm : X.mg "reversed" = none) (ha : PA X [e] ta) (hs : starEach [e] X.env = [(false, eval e X.env)] := by rfl) : PI X tg (.Call (.Name "reversed" p) [e] [] pos) (iRev X.K ta) := by
  intro pins s σ H R I h
  refine Call_ (ld_blt I hg hm boot_reversed5 (PyProof.Rows.callWith_type1 (thn (ha pos pins s σ H _ I h) fun us s1 ⟨vs, H1, I1, r1, q1⟩ => ?_) hs rfl))
  obtain ⟨a, xs, e, hq, q⟩ := q1
  subst e
  cases r1 with
  | cons r rr =>
    cases rr
    cases r
    obtain ⟨its, rv, p', hz⟩ := I1.list hq
    have hl := rv.length
    have e1 : ((its.toArray.size : Nat) : Int) - 1 = (xs.length : Int) - 1 - ((0 : Nat) : Int) := by simp only [List.size_toArray]; omega
    refine call_reversed_list p'.isList (wpAny_pyIter_revIter (l := a) (i := ((its.toArray.size : Nat) : Int) - 1) ⟨_, Heap.get?_push_size _ rfl, rfl, rfl⟩ ?_)
    refine pi_one (tk := s1.toks) I1 _ (turn_rev a _ xs.length) ⟨Nat.zero_le _, ?_⟩ q
    rw [← e1]
    exact ⟨_, Heap.get?_push_size _ rfl, rfl, rfl⟩
end

/-! ### a str -/

/-! ### a dict's keys: any dict's entries -/
section
variable {prog : Program} {w : World} {A : Around} {E : Value → Shared → Prop} {s : Shared}
end

/-! ### a locked dict -/
section
variable {X : Cx} {pins : List (Addr × Obj)} {σ : St} {H : Hp} {s : Shared} {d : Addr} {o : Obj}
end

section
variable {P : Program} {w : World} {K : PySem.W.Frag} {tg : Expr} {d : Addr} {o : Obj} {es : Array DictEntry} {ep : Nat}
end

/-! ### for k in d, d.keys(), d.values(), d.items() -/
section
variable {X : Cx} {tg e : Expr} {td : TE} {apos cpos : Pos}
end

/-! ### enumerate(list) -/
/-! ### zip(list, list) -/
theorem boot_zip5 : bootBuiltins "zip" = some (.type "zip") := by decide +kernel
/-- the lists at a and b as they stand at each turn, the items in new pairs -/
def Itz (K : PySem.W.Frag) (a b : Addr) : It :=
  ⟨fun i H => ∃ (xs ys : List V) (x y : V), SqL K H a xs ∧ SqL K H b ys ∧ xs[i]? = some x ∧ ys[i]? = some y,
    fun i H v H' => ∃ T x y, v = .ref T ∧ H T = none ∧ H' = upd H T (.tup [x, y]) ∧ (∀ xs, SqL K H a xs → xs[i]? = some x) ∧ ∀ ys, SqL K H b ys → ys[i]? = some y,
    fun i H => ∃ xs ys : List V, SqL K H a xs ∧ SqL K H b ys ∧ (xs.length ≤ i ∨ ys.length ≤ i)⟩
theorem turn_zip {P : Program} {w : World} {K : PySem.W.Frag} {elts : List Expr} {kk : Nat} {tpos : Pos} {a b z TI TO i1 i2 : Addr} (D : ZipApart z TI TO i1 i2 a b) :
    Turn P w K (.Tuple elts kk tpos) (Itz K a b) [z, TI, TO, i1, i2] z (fun i h => IsZip h z TI TO .none ∧ IsPair h TI (.ref i1) (.ref i2) ∧ (∃ x y, IsPair h TO x y) ∧ h.IsListIter i1 a i ∧ h.IsListIter i2 b i) where
  mem := by simp
  obj := fun i h st c hc => by
    obtain ⟨hz, hTI, ⟨x, y, hTO⟩, ⟨o1, e1, _, d1⟩, ⟨o2, e2, _, d2⟩⟩ := st
    have e' : c = z ∨ c = TI ∨ c = TO ∨ c = i1 ∨ c = i2 := by simpa using hc
    rcases e' with q | q | q | q | q
    · rw [q]; exact ⟨_, hz, fun v q => nomatch q⟩
    · rw [q]; exact ⟨_, hTI, fun v q => nomatch q⟩
    · rw [q]; exact ⟨_, hTO, fun v q => nomatch q⟩
    · rw [q]; exact ⟨o1, e1, fun v q => by rw [d1] at q; cases q⟩
    · rw [q]; exact ⟨o2, e2, fun v q => by rw [d2] at q; cases q⟩
  keep := fun i h h' st k => by
    obtain ⟨hz, hTI, ⟨x, y, hTO⟩, h1, h2⟩ := st
    exact ⟨k z (by simp) _ hz, k TI (by simp) _ hTI, ⟨x, y, k TO (by simp) _ hTO⟩, h1.at fun o q => k i1 (by simp) o q, h2.at fun o q => k i2 (by simp) o q⟩
  item := by
    intro X hP hw hK hc i pins s σ H E I hf st hg
    subst hP hw hK
    obtain ⟨hz, hTI, ⟨x0, y0, hTO⟩, h1, h2⟩ := st
    obtain ⟨xs, ys, x, y, hqx, hqy, hx, hy⟩ := hg
    obtain ⟨its, rv, p, _⟩ := I.list hqx
    obtain ⟨its2, rv2, p2, _⟩ := I.list hqy
    obtain ⟨u, hu, ru⟩ := rv.get hx
    obtain ⟨u2, hu2, ru2⟩ := rv2.get hy
    have hzl : z < s.heap.objs.size := Heap.lt_size hz
    refine wpAny_pyNext_zip_item D hz hTI hTO h1 h2 p.isList p2.isList (x := u) (y := u2) (by simpa using hu) (by simpa using hu2) fun h' z' TO' h1' h2' hT hsz hk => ?_
    refine ⟨_, rfl, wpAny_letOwnedTupleGo_zip (s := { s with heap := h' }) z' fun h'' z'' sb => ?_⟩
    have hT2 : h''.get? s.heap.objs.size = some { cls := .type "tuple", data := .seq #[u, u2] } := (sb.2 _ (Nat.ne_of_gt hzl)).trans hT
    have new : ObjOk X.prog X.w (upd H s.heap.objs.size (.tup [x, y])) h'' s.heap.objs.size (.tup [x, y]) :=
      ⟨by show 2 ≤ sizeLine; decide, [u, u2], .cons ru (.cons ru2 .nil), ⟨_, hT2, rfl, _, rfl⟩⟩
    have I1 : Inv X pins σ (upd H s.heap.objs.size (.tup [x, y])) { s with heap := h'' } :=
      I.turnedNew (t' := s.toks) (ch := [z, TI, TO, i1, i2]) (fun c o hb q => (sb.2 c (fun q' => hb (by simp [q']))).trans (hk c o (fun q' => hb (by simp [q'])) (fun q' => hb (by simp [q'])) (fun q' => hb (by simp [q'])) (fun q' => hb (by simp [q'])) q)) hf (Nat.le_refl _) new
    refine ⟨.ref s.heap.objs.size, _, I1, rfl, ⟨_, x, y, rfl, I.hok.fresh (Nat.le_refl _), rfl, fun l hl => by rw [I.list_inj hl hqx]; exact hx, fun l hl => by rw [I.list_inj hl hqy]; exact hy⟩, ⟨z'', ?_, ⟨u, u2, ?_⟩, ?_, ?_⟩, fun c hcm => ?_⟩
    · exact (sb.2 _ D.TIz).trans (hk _ _ D.TIz D.TITO D.TIi1 D.TIi2 hTI)
    · exact (sb.2 _ D.TOz).trans TO'
    · exact h1'.at fun o q => (sb.2 _ D.i1z).trans q
    · exact h2'.at fun o q => (sb.2 _ D.i2z).trans q
    · have hlt : c < s.heap.objs.size := by
        have e' : c = z ∨ c = TI ∨ c = TO ∨ c = i1 ∨ c = i2 := by simpa using hcm
        rcases e' with q | q | q | q | q
        · rw [q]; exact hzl
        · rw [q]; exact Heap.lt_size hTI
        · rw [q]; exact Heap.lt_size hTO
        · rw [q]; obtain ⟨_, e1, _⟩ := h1; exact Heap.lt_size e1
        · rw [q]; obtain ⟨_, e2, _⟩ := h2; exact Heap.lt_size e2
      rw [upd_ne (Nat.ne_of_lt hlt)]
      exact (hf c hcm).1
  done := by
    intro X hP hw hK hc i pins s σ H E I hf st hg
    subst hP hw hK
    obtain ⟨hz, hTI, ⟨x0, y0, hTO⟩, h1, h2⟩ := st
    obtain ⟨xs, ys, hqx, hqy, hend⟩ := hg
    obtain ⟨its, rv, p, _⟩ := I.list hqx
    obtain ⟨its2, rv2, p2, _⟩ := I.list hqy
    have l1 := rv.length
    have l2 := rv2.length
    have he : its.toArray[i]? = none ∨ its2.toArray[i]? = none := by
      rcases hend with q | q
      · exact .inl (by simp; omega)
      · exact .inr (by simp; omega)
    exact wpAny_pyNext_zip_end (I.ok.hd hc) D hz hTI hTO h1 h2 p.isList p2.isList he fun h' hk => ⟨rfl, I.turnedL (t' := s.toks) (ch := [z, TI, TO, i1, i2]) (fun c o hb q =>
      hk c o (fun q' => hb (by simp [q'])) (fun q' => hb (by simp [q'])) (fun q' => hb (by simp [q'])) (fun q' => hb (by simp [q'])) q) hf⟩
  self := fun A i s Q E st h => wpAny_pyIter_zip st.1 h
def iZip (K : PySem.W.Frag) (ta : TA) : TI := fun σ H R => ta σ H fun vs H1 => ∃ a b xs ys, vs = [.ref a, .ref b] ∧ SqL K H1 a xs ∧ SqL K H1 b ys ∧ R (Itz K a b) H1
theorem pi_zip {X : Cx} {e e2 : Expr} {ta : TA} {p pos tpos : Pos} {elts : List Expr} {kk : Nat} (hg : Gl X "zip") (hm : X.mg "zip" = none) (ha : PA X [e, e2] ta)
    (hs : starEach [e, e2] X.env = (false, eval e X.env) :: starEach [e2] X.env := by rfl) (hpl : (backTo pos (starEach [e2] X.env)).any (·.1) = false := by rfl) :
    PI X (.Tuple elts kk tpos) (.Call (.Name "zip" p) [e, e2] [] pos) (iZip X.K ta) := by
  intro pins s σ H R I h
  refine Call_ (ld_blt I hg hm boot_zip5 (PyProof.Rows.callWith_type1 (thn (ha pos pins s σ H _ I h) fun us s1 ⟨vs, H1, I1, r1, q1⟩ => ?_) hs hpl))
  obtain ⟨a, b, xs, ys, ex, hqx, hqy, q⟩ := q1
  subst ex
  cases r1 with
  | cons r rr =>
    cases rr with
    | cons r' rr =>
      cases rr
      cases r
      cases r'
      obtain ⟨its, rv, p1, _⟩ := I1.list hqx
      obtain ⟨its2, rv2, p2, _⟩ := I1.list hqy
      have la : a < s1.heap.objs.size := p1.lt
      have lb : b < s1.heap.objs.size := p2.lt
      refine call_zip_2 p1.isList p2.isList fun h' hz hTI hTO h1 h2 hsz hk => wpAny_pyIter_zip hz ?_
      have I2 : Inv X pins σ H1 { s1 with heap := h' } := I1.kept (t' := s1.toks) hk
      refine ⟨s1.heap.objs.size + 4, [s1.heap.objs.size + 4, s1.heap.objs.size + 2, s1.heap.objs.size + 3, s1.heap.objs.size, s1.heap.objs.size + 1], _, _, H1, rfl, I2, turn_zip (PySem.W.ktu_apart s1.heap.objs.size a b la lb), ⟨hz, hTI, ⟨_, _, hTO⟩, h1, h2⟩, fun c hcm => ?_, q⟩
      have e' : c = s1.heap.objs.size + 4 ∨ c = s1.heap.objs.size + 2 ∨ c = s1.heap.objs.size + 3 ∨ c = s1.heap.objs.size ∨ c = s1.heap.objs.size + 1 := by simpa using hcm
      have hle : s1.heap.objs.size ≤ c := by
        rcases e' with z | z | z | z | z
        · rw [z]; exact Nat.le_add_right _ _
        · rw [z]; exact Nat.le_add_right _ _
        · rw [z]; exact Nat.le_add_right _ _
        · rw [z]; exact Nat.le_refl _
        · rw [z]; exact Nat.le_add_right _ _
      exact I1.fpOk hle (I1.hok.fresh hle)
end L2

section 
namespace Bits
open PySem PyProof.Rows

end Bits
end 

section 
namespace TL
open PySem PySem.Builtin PySem.Builtin.Str PySem.StrLaws

/-! ### the list functions -/

/-! ### the model's split and partition are these -/

/-! ### computing spl and par -/

/-! ### digits -/

/-! ### words: x.split() -/
end TL
end 

namespace L2
open PySem PySem.Spec PyProof.Rows

section
variable {X : Cx} {pins : List (Addr × Obj)} {σ : St} {H : Hp} {s : Shared} {Q : VK}
end

section
variable {X : Cx}

/-! ### of a text alone -/

/-! ### of a text and a text -/

end

section
variable {X : Cx} {o e : Expr} {to te : TE}

end
end L2

namespace L2
open PySem PySem.Spec PyProof.Rows

section
variable {X : Cx}
end

/-! ### slices of a text -/

end L2

namespace Att
open PySem PySem.W PySem.Calls PyProof.Rows

/-! ### the script -/

/-! ### the attachment: holds_open's last premise (the goal 'hc' behind k_head) from a wpAny of the law's body -/

/-! ### rules over ANY heap (no ledger) from facts about the written part K: the library's own take a ledger (News) for what they write -/
section
variable {prog : Program} {w : World} {A : Around} {E : Value → Shared → Prop} {s : Shared} {K : Frag}

/-! the whole heap as the ledger: makes every rule that writes through a ledger a rule over any heap -/

end
end Att

namespace L2
open PySem PySem.Spec PyProof.Rows

end L2

namespace L2
open PySem PySem.Spec PyProof.Rows

end L2

/- THE LAST THEOREM (shape; LID, My.* are yours):
   My.Adr: a structure of the addresses that your layer names (classes, functions); My.Txt K t: a structure (Prop) of the equations over K;
   My.txt_mk : {K} {implicit addresses ..} (e1 : nsIn K mainGlobals "law" = some (some (.ref f))) (e2 : K.lookup f = some ⟨oc, od, .func (fnOf "law" "law" params body scope dV kV doc pm an cdv ct), sl⟩) (e3 : codeIn K cdv "law" = true) .. : ∃ t, My.Txt K t

set_option maxRecDepth 100000 in
set_option maxHeartbeats 0 in
theorem PySem.Challenge.cw_LID_holds : PySem.Challenge.rw_LID.Holds := by
  w_on; o_law; k_head; (case hw => w_witness2)
  k_fill
  refine L2.walk_of (l := PySem.Challenge.rw_LID) (n := 63) (k := 40) (x := "script") (CX := fun w => ..) (sp := fun _ => My.sp_law) rfl (by decide) rfl ⟨rfl, by decide, by decide⟩ (fun w h Y => PySem.W.kIn_of Y) ?F ?S ?C
  case F =>
    intro w mg fa h KX G hmg
    have T : ∃ t, My.Txt (L2.KOf KX) t := by
      dsimp only [L2.KOf]                          -- K must stand as «<heap const> w.params» for k_is
      refine' My.txt_mk ?e1 ?e2 ?e3 ..
      (case e1 => PySem.W.k_is)                    -- in the order: a name -> its address -> its object -> its parts
      (case e2 => PySem.W.k_is)
      ..
    obtain ⟨t, T⟩ := T
    have e0 := hmg.symm.trans (PySem.W.mg_of KX G T.law)
    cases e0                                       -- fa is the law's own address
    exact ⟨_, fun s u => .of_eq rfl, fun base kb nb => My.law_fn T kb nb⟩     -- if «.of_eq rfl» comes too early: refine' ⟨_, ?b, fun base kb nb => My.law_fn T kb nb⟩; exact fun s u => .of_eq rfl
  case S => exact fun w H a ns hl hO hS => ..
  case C => exact ..
(the tactic k_is has no namespace: write k_is) -/

/-! SHORT WORDS over the layer: a def of the text, its body, what a loop and a test want. -/
namespace L2
open PySem PySem.Spec PyProof.Rows

/-! ### the text by places -/
def defArgs (s : Stmt) : Arguments := match s with
  | .FunctionDef _ a _ _ _ _ _ _ _ _ => a
  | _ => { posonlyargs := [], args := [], vararg := none, kwonlyargs := [], kw_defaults := [], kwarg := none, defaults := [] }
def defBody (s : Stmt) : List Stmt := match s with
  | .FunctionDef _ _ b _ _ _ _ _ _ _ => b
  | _ => []
def defScope (s : Stmt) : Scope := match s with
  | .FunctionDef _ _ _ _ _ _ sc _ _ _ => sc
  | _ => { kind := .function, names := [], isGenerator := false, isCoroutine := false }

/-! ### no exception leaves a def -/
abbrev CX0 : CXT := fun _ _ _ _ _ _ => False
abbrev E0 : XK := fun _ _ _ => False
theorem pass0 {X : Cx} : Passes CX0 X E0 := fun _ _ _ _ _ _ _ h => h.elim

/-! ### a def (or method) of the text as it stands behind the top -/
structure Fun (K : PySem.W.Frag) (x qual : Str) (st : Stmt) (f : Addr) (fd : FuncData) : Prop where
  ex : ∃ (oc : Value) (od : Option Addr) (kV doc pm : Value) (an : Option Addr) (cdv ct : Value) (osl : Array (Option Value)),
    fd = PySem.W.fnOf x qual (defArgs st) (defBody st) (defScope st) .none kV doc pm an cdv ct ∧ K.lookup f = some ⟨oc, od, .func fd, osl⟩ ∧ PySem.W.codeIn K cdv qual = true
  kp : PySem.W.keepIn K (.ref f) = true
section
variable {P : Program} {w : World} {K : PySem.W.Frag} {mg : Str → Option Value} {base : Heap}
/-- THE RULE for a def: its body as a term of rules, and the reading of that term -/
theorem Fun.ok {x qual : Str} {st : Stmt} {f : Addr} {fd : FuncData} {N ps : List Str} {k : Nat} {sp : Sp} (F : Fun K x qual st f fd) (S : FnScope N ps (defScope st)) (len : ∀ vs H Q E, sp vs H Q E → vs.length = ps.length)
    (hbody : ∀ (cdv : Value) (A : Around) (outer : List Env) (s : Shared) (H : Hp) (vs : List V) (Q : VK) (E : XK), Room k (A.deeper (envOfC qual (defScope st) s.heap.objs.size f cdv)) → sp vs H Q E →
      ∃ t, PSs (cxOf CX0 P w K mg base N qual (defScope st) f cdv A outer s H E).nox (defBody st) t ∧ t { nx := fun _ H' => Q .non H', rt := Q } (start N vs) H) : FnOk P w K mg base CX0 (k + 1) f fd ps sp := by
  obtain ⟨oc, od, kV, doc, pm, an, cdv, ct, osl, rfl, lk, hcd⟩ := F.ex
  refine fn_of lk hcd S len fun A outer s H vs Q E hr hsp => ?_
  obtain ⟨t, h, q⟩ := hbody cdv A outer s H vs Q E hr hsp
  exact ⟨t, h.nox, q⟩
/-- how its arguments bind (no defaults): h is «fun _ _ _ _ _ _ us hl => match us, hl with | [_, _], _ => rfl», one _ a parameter -/
theorem Fun.binds {x qual : Str} {st : Stmt} {f : Addr} {fd : FuncData} {ps : List Str} (F : Fun K x qual st f fd)
    (h : ∀ (kV doc pm : Value) (an : Option Addr) (cdv ct : Value) (us : List Value), us.length = ps.length → bindArgs (PySem.W.fnOf x qual (defArgs st) (defBody st) (defScope st) .none kV doc pm an cdv ct) ⟨us, []⟩ = pure (ps.zip us)) : Binds K fd ps [] := by
  obtain ⟨oc, od, kV, doc, pm, an, cdv, ct, osl, rfl, lk, hcd⟩ := F.ex
  exact .all (h kV doc pm an cdv ct)
theorem fun_mk {x qual : Str} {st : Stmt} {f : Addr} {oc : Value} {od an : Option Addr} {osl : Array (Option Value)} {kV doc pm cdv ct : Value} (l : K.lookup f = some ⟨oc, od, .func (PySem.W.fnOf x qual (defArgs st) (defBody st) (defScope st) .none kV doc pm an cdv ct), osl⟩)
    (c : PySem.W.codeIn K cdv qual = true) (k : PySem.W.keepIn K (.ref f) = true) : Fun K x qual st f (PySem.W.fnOf x qual (defArgs st) (defBody st) (defScope st) .none kV doc pm an cdv ct) := ⟨⟨oc, od, kV, doc, pm, an, cdv, ct, osl, rfl, l, c⟩, k⟩
end
theorem small1000 {n : Nat} (h : n ≤ 1000) : n < sizeLine := Nat.lt_of_le_of_lt h (by decide)

/-! ### expressions in short: the name that stands in the i-th slot -/
section
variable {X : Cx}
theorem pv (i : Nat) {x : Str} {pos : Pos} (hN : X.N[i]? = some x := by rfl) (hv : Vis X.env.scope x := by first | exact Or.inl rfl | exact Or.inr (Or.inl rfl) | exact Or.inr (Or.inr rfl)) (hd : (x == ("__debug__" : Str)) = false := by decide)
    (hcd : (x == ("__classdict__" : Str)) = false := by decide) : PE X (.Name x pos) (tVar i) := pe_var hN hv hd hcd
end

/-! ### tests -/
theorem iteF {A B : Prop} (h : B) : if false = true then A else B := by
  rw [if_neg Bool.false_ne_true]
  exact h
theorem iteT {A B : Prop} (h : A) : if true = true then A else B := by
  rw [if_pos rfl]
  exact h
theorem ite2 {c A B : Prop} [Decidable c] (h1 : c → A) (h2 : ¬ c → B) : if c then A else B := by
  by_cases h : c
  · rw [if_pos h]
    exact h1 h
  · rw [if_neg h]
    exact h2 h
theorem iteNS {c A B : Prop} [Decidable c] (hc : c) (h : B) : if (!decide c) = true then A else B := by
  rw [decide_eq_true hc]
  exact iteF h

/-! ### heaps -/
/-- all that was tracked is as it was -/
def Same (H H' : Hp) : Prop := ∀ b o, H b = some o → H' b = some o
theorem Same.refl (H : Hp) : Same H H := fun _ _ h => h
theorem Same.trans {H H1 H2 : Hp} (a : Same H H1) (b : Same H1 H2) : Same H H2 := fun c o h => b c o (a c o h)
theorem Same.seq {K : PySem.W.Frag} {H H' : Hp} {a : Addr} {xs : List V} (e : Same H H') (h : SqL K H a xs) : SqL K H' a xs := by
  rcases h with (h | ⟨o, h⟩) | h
  · exact .inl (.inl (e _ _ h))
  · exact .inl (.inr ⟨o, e _ _ h⟩)
  · exact .inr h

/-! ### a dict's pairs: keys that differ -/
section
variable {κ : Type} [DecidableEq κ]
end
/-! ### lists -/
theorem at_of {xs : List V} {z : Int} {j : Nat} {v : V} (e : z = (j : Int)) (h : xs[j]? = some v) : atI xs z = some v := by
  rw [e]
  exact atI_nat h
end L2

section
set_option Elab.async false
set_option linter.all false
set_option maxRecDepth 100000
set_option maxHeartbeats 2000000
namespace L2
open PySem PySem.Spec PyProof.Rows
open PySem.W (WData Codec OpenSpec Well WellAll ReadsW ReadsAllW)
/-! ### an answer as data -/
mutual
/-- x stands for the datum d, lists and tuples all the way -/
inductive Dw (K : PySem.W.Frag) (H : Hp) : V → WData → Prop
  | non : Dw K H .non .none
  | bl (b : Bool) : Dw K H (.bl b) (.bool b)
  | int (i : Int) : Dw K H (.int i) (.int i)
  | str (x : Str) : Dw K H (.str x) (.str x)
  | byt (b : Array UInt8) : Dw K H (.byt b) (.bytes b.toList)
  | lst {a : Addr} {xs : List V} {ds : List WData} : SqL K H a xs → DwAll K H xs ds → Dw K H (.ref a) (.list ds)
  | tup {a : Addr} {xs : List V} {ds : List WData} : SqT K H a xs → DwAll K H xs ds → Dw K H (.ref a) (.tuple ds)
inductive DwAll (K : PySem.W.Frag) (H : Hp) : List V → List WData → Prop
  | nil : DwAll K H [] []
  | cons {v : V} {vs : List V} {d : WData} {ds : List WData} : Dw K H v d → DwAll K H vs ds → DwAll K H (v :: vs) (d :: ds)
end
theorem dw_ints {K : PySem.W.Frag} {H : Hp} : ∀ ns : List Int, DwAll K H (ns.map V.int) (ns.map WData.int)
  | [] => .nil
  | n :: r => .cons (.int n) (dw_ints r)
theorem ints_dw {K : PySem.W.Frag} {H : Hp} : ∀ (ns : List Int) (xs : List V), DwAll K H xs (ns.map WData.int) → xs = ns.map V.int
  | [], xs, h => by
    cases h
    rfl
  | n :: r, xs, h => by
    cases h with
    | cons h1 h2 =>
      cases h1
      rw [ints_dw r _ h2] <;> rfl
section
variable {P : Program} {w : World} {K : PySem.W.Frag} {H : Hp} {h : Heap} {R : PySem.W.WRecords} {cl : Str → Option Addr}
theorem sqL_at {a : Addr} {xs : List V} (hok : HOk P w H h) (KX : K.In h) (q : SqL K H a xs) : ∃ (its : List Value) (o : Obj) (n : Nat), Vals xs its ∧ h.get? a = some o ∧ o.cls = .type "list" ∧ o.data = .seq its.toArray n := by
  rcases q with q | ⟨o, its, n, e, hc, _, hd, _, hv⟩
  · obtain ⟨_, its, n, hv, e⟩ := (show ObjOk P w H h a (.lst xs) from q.ok hok)
    exact ⟨its, _, n, hv, e, rfl, rfl⟩
  · exact ⟨its.toList, o, n, hv, KX _ _ e, hc, by simp [hd]⟩
theorem sqT_at {a : Addr} {xs : List V} (hok : HOk P w H h) (KX : K.In h) (q : SqT K H a xs) : ∃ (its : List Value) (o : Obj) (n : Nat), Vals xs its ∧ h.get? a = some o ∧ o.cls = .type "tuple" ∧ o.data = .seq its.toArray n := by
  rcases q with q | ⟨o, its, n, e, hc, hd, _, hv⟩
  · obtain ⟨_, its, hv, o, e, hc, n, hd⟩ := (show ObjOk P w H h a (.tup xs) from q.ok hok)
    exact ⟨its, o, n, hv, e, hc, hd⟩
  · exact ⟨its.toList, o, n, hv, KX _ _ e, hc, by simp [hd]⟩
mutual
theorem Dw.reads (hok : HOk P w H h) (KX : K.In h) : ∀ (d : WData) (v : V) (u : Value), Dw K H v d → RelV v u → ∃ as, ReadsW R cl h u d as
  | .none, _, _, x, r => by
    cases x
    cases r
    exact ⟨_, ReadsW.none⟩
  | .bool b, _, _, x, r => by
    cases x
    cases r
    exact ⟨_, ReadsW.bool b⟩
  | .int i, _, _, x, r => by
    cases x
    obtain ⟨t, rfl⟩ := r
    exact ⟨_, ReadsW.int i t⟩
  | .str s, _, _, x, r => by
    cases x
    obtain ⟨t, rfl⟩ := r
    exact ⟨_, ReadsW.str s t⟩
  | .bytes b, _, _, x, r => by
    cases x
    obtain ⟨t, rfl⟩ := r
    exact ⟨_, ReadsW.bytes _ t⟩
  | .list ds, _, _, x, r => by
    cases x with
    | lst hs ha =>
      cases r
      obtain ⟨its, o, n, rv, ho, hc, hd⟩ := sqL_at hok KX hs
      obtain ⟨as, hr⟩ := Dw.readsAll hok KX ds _ its ha rv
      exact ⟨_, ReadsW.list ho hc hd hr⟩
  | .tuple ds, _, _, x, r => by
    cases x with
    | tup hs ha =>
      cases r
      obtain ⟨its, o, n, rv, ho, hc, hd⟩ := sqT_at hok KX hs
      obtain ⟨as, hr⟩ := Dw.readsAll hok KX ds _ its ha rv
      exact ⟨_, ReadsW.tuple ho hc hd hr⟩
  | .float _, _, _, x, _ => by cases x
  | .dict _, _, _, x, _ => by cases x
  | .bytearray _, _, _, x, _ => by cases x
  | .set _, _, _, x, _ => by cases x
  | .frozenset _, _, _, x, _ => by cases x
  | .obj _ _, _, _, x, _ => by cases x
theorem Dw.readsAll (hok : HOk P w H h) (KX : K.In h) : ∀ (ds : List WData) (vs : List V) (us : List Value), DwAll K H vs ds → Vals vs us → ∃ as, ReadsAllW R cl h us ds as
  | [], _, _, x, r => by
    cases x
    cases r
    exact ⟨_, ReadsAllW.nil⟩
  | d :: ds, _, _, x, r => by
    cases x with
    | cons h1 h2 =>
      cases r with
      | cons r1 r2 =>
        obtain ⟨as, q1⟩ := Dw.reads hok KX d _ _ h1 r1
        obtain ⟨bs, q2⟩ := Dw.readsAll hok KX ds _ _ h2 r2
        exact ⟨_, ReadsAllW.cons q1 q2⟩
end
end
/-! ### the arguments -/
mutual
/-- data that a codec tells -/
def plW : WData → Bool
  | .none => true
  | .bool _ => true
  | .int _ => true
  | .str _ => true
  | .bytes _ => true
  | .list xs => plWs xs
  | .tuple xs => plWs xs
  | _ => false
def plWs : List WData → Bool
  | [] => true
  | x :: r => plW x && plWs r
end
theorem plWs_map {α : Type} {f : α → WData} (h : ∀ a, plW (f a) = true) : ∀ l : List α, plWs (l.map f) = true
  | [] => rfl
  | x :: r => by
    show (plW (f x) && plWs (r.map f)) = true
    rw [h x, plWs_map h r] <;> rfl
theorem pl_enc : ∀ (c : Codec) (a : c.denote), plW (c.enc a) = true
  | .unit, _ => rfl
  | .bool, _ => rfl
  | .int _ _, _ => rfl
  | .nat _ _, _ => rfl
  | .u8, _ => rfl
  | .bytes _ _, _ => rfl
  | .text _ _ _ _, _ => rfl
  | .list _ _ c, a => plWs_map (fun x => pl_enc c x) a
  | .pair c d, a => by
    show (plW (c.enc a.1) && (plW (d.enc a.2) && true)) = true
    rw [pl_enc c a.1, pl_enc d a.2] <;> rfl
  | .triple c d e, a => by
    show (plW (c.enc a.1) && (plW (d.enc a.2.1) && (plW (e.enc a.2.2) && true))) = true
    rw [pl_enc c a.1, pl_enc d a.2.1, pl_enc e a.2.2] <;> rfl
  | .option c, none => rfl
  | .option c, some x => pl_enc c x
theorem pl_encAll : ∀ (cs : List Codec) (a : Codec.denoteAll cs), plWs (Codec.encAll cs a) = true
  | [], _ => rfl
  | c :: cs, a => by
    show (plW (c.enc a.1) && plWs (Codec.encAll cs a.2)) = true
    rw [pl_enc c a.1, pl_encAll cs a.2] <;> rfl
theorem weight_mem : ∀ {xs : List WData} {d : WData}, d ∈ xs → d.weight ≤ WData.weightAll xs
  | [], d, h => absurd h (by simp)
  | x :: r, d, h => by
    show d.weight ≤ x.weight + 1 + WData.weightAll r
    rcases List.mem_cons.mp h with e | m
    · rw [e]
      omega
    · have z := weight_mem m
      omega
def toV : Value → V
  | .none => .non
  | .bool b => .bl b
  | .int i _ => .int i
  | .str x _ => .str x
  | .bytes b _ => .byt b
  | .ref a => .ref a
  | _ => .non
/-- a value of the arguments, its objects among A -/
def OkU (A : List Addr) : Value → Prop
  | .none => True
  | .bool _ => True
  | .int _ _ => True
  | .str _ _ => True
  | .bytes _ _ => True
  | .ref a => a ∈ A
  | _ => False
theorem OkU.mono {A B : List Addr} (h : ∀ a ∈ A, a ∈ B) : ∀ {u : Value}, OkU A u → OkU B u := fun {u} x => by
  cases u with
  | ref a => exact h a x
  | none => trivial
  | bool b => trivial
  | int i t => trivial
  | str s t => trivial
  | bytes b t => trivial
  | _ => exact False.elim x
theorem relV_toV {A : List Addr} {u : Value} (x : OkU A u) : RelV (toV u) u := by
  cases u with
  | ref a => rfl
  | none => rfl
  | bool b => rfl
  | int i t => exact ⟨t, rfl⟩
  | str s t => exact ⟨t, rfl⟩
  | bytes b t => exact ⟨t, rfl⟩
  | _ => exact False.elim x
theorem vals_toV {A : List Addr} : ∀ {vs : List Value}, (∀ u ∈ vs, OkU A u) → Vals (vs.map toV) vs
  | [], _ => .nil
  | u :: r, h => .cons (relV_toV (h u (List.mem_cons_self ..))) (vals_toV fun x hx => h x (List.mem_cons_of_mem _ hx))
/-- an object of the arguments -/
def ArgOb (h : Heap) (A : List Addr) (a : Addr) : Prop := ∃ vs : List Value, vs.length ≤ sizeLine ∧ (∀ u ∈ vs, OkU A u) ∧
  (h.get? a = some { cls := .type "list", data := .seq vs.toArray } ∨ h.get? a = some { cls := .type "tuple", data := .seq vs.toArray })
theorem ArgOb.mono {h : Heap} {A B : List Addr} {a : Addr} (k : ∀ a ∈ A, a ∈ B) (x : ArgOb h A a) : ArgOb h B a := by
  obtain ⟨vs, h1, h2, h3⟩ := x
  exact ⟨vs, h1, fun u hu => (h2 u hu).mono k, h3⟩
theorem wellAll_len {P : Params} {h : Heap} : ∀ {vs : List Value} {ds : List WData}, WellAll P h vs ds → vs.length = ds.length
  | _, _, .nil => rfl
  | _, _, .cons _ b => by
    show _ + 1 = _ + 1
    rw [wellAll_len b]
theorem well_list {P : Params} {h : Heap} {v : Value} {ds : List WData} (x : Well P h v (.list ds)) : ∃ (a : Addr) (vs : List Value), v = .ref a ∧ h.get? a = some { cls := .type "list", data := .seq vs.toArray } ∧ WellAll P h vs ds := by
  cases x with
  | list ho hall => exact ⟨_, _, rfl, ho, hall⟩
theorem well_tuple {P : Params} {h : Heap} {v : Value} {ds : List WData} (x : Well P h v (.tuple ds)) : ∃ (a : Addr) (vs : List Value), v = .ref a ∧ h.get? a = some { cls := .type "tuple", data := .seq vs.toArray } ∧ WellAll P h vs ds := by
  cases x with
  | tuple ho hall => exact ⟨_, _, rfl, ho, hall⟩
theorem well_cons {P : Params} {h : Heap} {us : List Value} {d : WData} {ds : List WData} (x : WellAll P h us (d :: ds)) : ∃ (v : Value) (vs : List Value), us = v :: vs ∧ Well P h v d ∧ WellAll P h vs ds := by
  cases x with
  | cons a b => exact ⟨_, _, rfl, a, b⟩
theorem line_of {n : Nat} (h : n ≤ 1048576) : n ≤ sizeLine := Nat.le_trans h (by decide)
section
variable {P : Params} {h : Heap}
mutual
theorem area_one : ∀ (d : WData) (v : Value), Well P h v d → plW d = true → d.weight ≤ 1048576 → ∃ A : List Addr, OkU A v ∧ ∀ a ∈ A, ArgOb h A a
  | .none, _, x, _, _ => by
    cases x
    exact ⟨[], trivial, fun a m => absurd m (by simp)⟩
  | .bool b, _, x, _, _ => by
    cases x
    exact ⟨[], trivial, fun a m => absurd m (by simp)⟩
  | .int i, _, x, _, _ => by
    cases x
    exact ⟨[], trivial, fun a m => absurd m (by simp)⟩
  | .str s, _, x, _, _ => by
    cases x
    exact ⟨[], trivial, fun a m => absurd m (by simp)⟩
  | .bytes b, _, x, _, _ => by
    cases x
    exact ⟨[], trivial, fun a m => absurd m (by simp)⟩
  | .list ds, _, x, p, z => by
    obtain ⟨a, vs, rfl, ho, hall⟩ := well_list x
    have z2 : WData.weightAll ds ≤ 1048576 := z
    obtain ⟨A, h1, h2⟩ := area_all ds _ hall p fun d hd => Nat.le_trans (weight_mem hd) z2
    have k : ∀ b ∈ A, b ∈ a :: A := fun b hb => List.mem_cons_of_mem _ hb
    refine ⟨a :: A, List.mem_cons_self .., fun b hb => ?_⟩
    rcases List.mem_cons.mp hb with e | m
    · rw [e]
      exact ⟨vs, line_of (by rw [wellAll_len hall]; exact Nat.le_trans (PySem.W.length_le_weightAllW ds) z2), fun u hu => (h1 u hu).mono k, .inl ho⟩
    · exact (h2 b m).mono k
  | .tuple ds, _, x, p, z => by
    obtain ⟨a, vs, rfl, ho, hall⟩ := well_tuple x
    have z2 : WData.weightAll ds ≤ 1048576 := z
    obtain ⟨A, h1, h2⟩ := area_all ds _ hall p fun d hd => Nat.le_trans (weight_mem hd) z2
    have k : ∀ b ∈ A, b ∈ a :: A := fun b hb => List.mem_cons_of_mem _ hb
    refine ⟨a :: A, List.mem_cons_self .., fun b hb => ?_⟩
    rcases List.mem_cons.mp hb with e | m
    · rw [e]
      exact ⟨vs, line_of (by rw [wellAll_len hall]; exact Nat.le_trans (PySem.W.length_le_weightAllW ds) z2), fun u hu => (h1 u hu).mono k, .inr ho⟩
    · exact (h2 b m).mono k
  | .float _, _, _, p, _ => Bool.noConfusion (show false = true from p)
  | .dict _, _, _, p, _ => Bool.noConfusion (show false = true from p)
  | .bytearray _, _, _, p, _ => Bool.noConfusion (show false = true from p)
  | .set _, _, _, p, _ => Bool.noConfusion (show false = true from p)
  | .frozenset _, _, _, p, _ => Bool.noConfusion (show false = true from p)
  | .obj _ _, _, _, p, _ => Bool.noConfusion (show false = true from p)
theorem area_all : ∀ (ds : List WData) (vs : List Value), WellAll P h vs ds → plWs ds = true → (∀ d ∈ ds, d.weight ≤ 1048576) → ∃ A : List Addr, (∀ u ∈ vs, OkU A u) ∧ ∀ a ∈ A, ArgOb h A a
  | [], _, x, _, _ => by
    cases x
    exact ⟨[], fun u m => absurd m (by simp), fun a m => absurd m (by simp)⟩
  | d :: ds, _, x, p, z => by
    obtain ⟨v, vs, rfl, x1, x2⟩ := well_cons x
    have q : plW d = true ∧ plWs ds = true := Bool.and_eq_true_iff.mp p
    obtain ⟨A, a1, a2⟩ := area_one d v x1 q.1 (z d (List.mem_cons_self ..))
    obtain ⟨B, b1, b2⟩ := area_all ds vs x2 q.2 fun e he => z e (List.mem_cons_of_mem _ he)
    have kA : ∀ b ∈ A, b ∈ A ++ B := fun b hb => List.mem_append.mpr (.inl hb)
    have kB : ∀ b ∈ B, b ∈ A ++ B := fun b hb => List.mem_append.mpr (.inr hb)
    refine ⟨A ++ B, fun u hu => ?_, fun b hb => ?_⟩
    · rcases List.mem_cons.mp hu with e | m
      · rw [e]
        exact a1.mono kA
      · exact (b1 u m).mono kB
    · rcases List.mem_append.mp hb with m | m
      · exact (a2 b m).mono kA
      · exact (b2 b m).mono kB
end
end
/-- what is tracked of an argument's object -/
def hoOf (o : Obj) : Option HO := match o.data with
  | .seq vs _ => if (o.cls == Value.type "list") = true then some (.frz o (.lst (vs.toList.map toV))) else some (.frz o (.tup (vs.toList.map toV)))
  | _ => none
def argH (K : PySem.W.Frag) (h : Heap) (A : List Addr) : Hp := fun b => if b ∈ A then (if (K.lookup b).isNone = true then (h.get? b).bind hoOf else none) else none
/-- nothing is tracked but what is known to the object -/
def OnlyF (H : Hp) : Prop := ∀ b, H b = none ∨ ∃ o u, H b = some (.frz o u)
theorem hoOf_lst (vs : List Value) : hoOf { cls := .type "list", data := .seq vs.toArray } = some (.frz { cls := .type "list", data := .seq vs.toArray } (.lst (vs.map toV))) := by
  show (if (Value.type "list" == Value.type "list") = true then some (HO.frz { cls := .type "list", data := .seq vs.toArray } (.lst (vs.toArray.toList.map toV))) else some (HO.frz { cls := .type "list", data := .seq vs.toArray } (.tup (vs.toArray.toList.map toV)))) = _
  rw [if_pos (beq_self_eq_true _)]
theorem hoOf_tup (vs : List Value) : hoOf { cls := .type "tuple", data := .seq vs.toArray } = some (.frz { cls := .type "tuple", data := .seq vs.toArray } (.tup (vs.map toV))) := by
  show (if (Value.type "tuple" == Value.type "list") = true then some (HO.frz { cls := .type "tuple", data := .seq vs.toArray } (.lst (vs.toArray.toList.map toV))) else some (HO.frz { cls := .type "tuple", data := .seq vs.toArray } (.tup (vs.toArray.toList.map toV)))) = _
  rw [if_neg (by decide)]
section
variable {P : Program} {w : World} {K : PySem.W.Frag} {h : Heap} {A : List Addr}
theorem argH_at {b : Addr} {o : Obj} (hb : b ∈ A) (hk : K.lookup b = none) (e : h.get? b = some o) : argH K h A b = hoOf o := by
  unfold argH
  rw [if_pos hb, hk, if_pos (show (none : Option Obj).isNone = true from rfl), e] <;> rfl
theorem of_argH {b : Addr} {u : HO} (q : argH K h A b = some u) : b ∈ A ∧ K.lookup b = none := by
  unfold argH at q
  by_cases hb : b ∈ A
  · rw [if_pos hb] at q
    cases hk : K.lookup b with
    | none => exact ⟨hb, rfl⟩
    | some o =>
      rw [hk, if_neg (by simp)] at q
      cases q
  · rw [if_neg hb] at q
    cases q
/-- what stands tracked -/
theorem argH_is (ar : ∀ a ∈ A, ArgOb h A a) {b : Addr} {u : HO} (q : argH K h A b = some u) : K.lookup b = none ∧ ∃ vs : List Value, vs.length ≤ sizeLine ∧ (∀ u ∈ vs, OkU A u) ∧
    ((h.get? b = some { cls := .type "list", data := .seq vs.toArray } ∧ u = .frz { cls := .type "list", data := .seq vs.toArray } (.lst (vs.map toV))) ∨
     (h.get? b = some { cls := .type "tuple", data := .seq vs.toArray } ∧ u = .frz { cls := .type "tuple", data := .seq vs.toArray } (.tup (vs.map toV)))) := by
  obtain ⟨hb, hk⟩ := of_argH q
  obtain ⟨vs, h1, h2, h3⟩ := ar b hb
  refine ⟨hk, vs, h1, h2, ?_⟩
  rcases h3 with e | e
  · rw [argH_at hb hk e, hoOf_lst] at q
    exact .inl ⟨e, (Option.some.inj q).symm⟩
  · rw [argH_at hb hk e, hoOf_tup] at q
    exact .inr ⟨e, (Option.some.inj q).symm⟩
theorem argH_only (ar : ∀ a ∈ A, ArgOb h A a) : OnlyF (argH K h A) := fun b => by
  cases q : argH K h A b with
  | none => exact .inl rfl
  | some u =>
    obtain ⟨_, vs, _, _, ⟨_, e⟩ | ⟨_, e⟩⟩ := argH_is ar q
    · exact .inr ⟨_, _, by rw [e]⟩
    · exact .inr ⟨_, _, by rw [e]⟩
theorem argH_ok (ar : ∀ a ∈ A, ArgOb h A a) : HOk P w (argH K h A) h := fun b u q => by
  obtain ⟨_, vs, h1, h2, ⟨e, rfl⟩ | ⟨e, rfl⟩⟩ := argH_is ar q
  · exact ⟨e, by rw [List.length_map]; exact h1, vs, _, vals_toV h2, e⟩
  · exact ⟨e, by rw [List.length_map]; exact h1, vs, vals_toV h2, _, e, rfl, _, rfl⟩
theorem seq_inj {c c' : Value} {vs us : List Value} (e : (some { cls := c, data := .seq vs.toArray } : Option Obj) = some { cls := c', data := .seq us.toArray }) : c = c' ∧ vs = us := by
  have e1 := Option.some.inj e
  have e2 : c = c' := congrArg Obj.cls e1
  have e3 : Data.seq vs.toArray = Data.seq us.toArray := congrArg Obj.data e1
  injection e3 with e4
  refine ⟨e2, ?_⟩
  have e5 := congrArg Array.toList e4
  simpa using e5
/-- a list argument -/
theorem argL (KX : K.In h) (ar : ∀ a ∈ A, ArgOb h A a) {a : Addr} {vs : List Value} (ha : a ∈ A) (e : h.get? a = some { cls := .type "list", data := .seq vs.toArray }) : (∀ u ∈ vs, OkU A u) ∧ SqL K (argH K h A) a (vs.map toV) := by
  obtain ⟨us, h1, h2, h3⟩ := ar a ha
  have hu : us = vs := by
    rcases h3 with q | q
    · rw [e] at q
      exact (seq_inj q).2.symm
    · rw [e] at q
      exact absurd (Value.type.inj (seq_inj q).1) (by decide)
  subst hu
  refine ⟨h2, ?_⟩
  cases hk : K.lookup a with
  | none => exact .inl (.inr ⟨_, by rw [argH_at ha hk e, hoOf_lst]⟩)
  | some o =>
    have e2 := KX a o hk
    rw [e] at e2
    obtain rfl := Option.some.inj e2
    exact .inr ⟨_, us.toArray, _, hk, rfl, rfl, rfl, by rw [List.size_toArray]; exact h1, by simpa using vals_toV h2⟩
theorem argT (KX : K.In h) (ar : ∀ a ∈ A, ArgOb h A a) {a : Addr} {vs : List Value} (ha : a ∈ A) (e : h.get? a = some { cls := .type "tuple", data := .seq vs.toArray }) : (∀ u ∈ vs, OkU A u) ∧ SqT K (argH K h A) a (vs.map toV) := by
  obtain ⟨us, h1, h2, h3⟩ := ar a ha
  have hu : us = vs := by
    rcases h3 with q | q
    · rw [e] at q
      exact absurd (Value.type.inj (seq_inj q).1) (by decide)
    · rw [e] at q
      exact (seq_inj q).2.symm
  subst hu
  refine ⟨h2, ?_⟩
  cases hk : K.lookup a with
  | none => exact .inl (.inr ⟨_, by rw [argH_at ha hk e, hoOf_tup]⟩)
  | some o =>
    have e2 := KX a o hk
    rw [e] at e2
    obtain rfl := Option.some.inj e2
    exact .inr ⟨_, us.toArray, _, hk, rfl, rfl, by rw [List.size_toArray]; exact h1, by simpa using vals_toV h2⟩
mutual
theorem dw_one {Pm : Params} (KX : K.In h) (ar : ∀ a ∈ A, ArgOb h A a) : ∀ (d : WData) (v : Value), Well Pm h v d → plW d = true → OkU A v → Dw K (argH K h A) (toV v) d
  | .none, _, x, _, _ => by
    cases x
    exact .non
  | .bool b, _, x, _, _ => by
    cases x
    exact .bl b
  | .int i, _, x, _, _ => by
    cases x
    exact .int i
  | .str s, _, x, _, _ => by
    cases x
    exact .str s
  | .bytes b, _, x, _, _ => by
    cases x
    have z := Dw.byt (K := K) (H := argH K h A) b.toArray
    exact z
  | .list ds, _, x, p, hu => by
    obtain ⟨a, vs, rfl, ho, hall⟩ := well_list x
    obtain ⟨h2, hs⟩ := argL KX ar hu ho
    exact .lst hs (dw_all KX ar ds _ hall p h2)
  | .tuple ds, _, x, p, hu => by
    obtain ⟨a, vs, rfl, ho, hall⟩ := well_tuple x
    obtain ⟨h2, hs⟩ := argT KX ar hu ho
    exact .tup hs (dw_all KX ar ds _ hall p h2)
  | .float _, _, _, p, _ => Bool.noConfusion (show false = true from p)
  | .dict _, _, _, p, _ => Bool.noConfusion (show false = true from p)
  | .bytearray _, _, _, p, _ => Bool.noConfusion (show false = true from p)
  | .set _, _, _, p, _ => Bool.noConfusion (show false = true from p)
  | .frozenset _, _, _, p, _ => Bool.noConfusion (show false = true from p)
  | .obj _ _, _, _, p, _ => Bool.noConfusion (show false = true from p)
theorem dw_all {Pm : Params} (KX : K.In h) (ar : ∀ a ∈ A, ArgOb h A a) : ∀ (ds : List WData) (vs : List Value), WellAll Pm h vs ds → plWs ds = true → (∀ u ∈ vs, OkU A u) → DwAll K (argH K h A) (vs.map toV) ds
  | [], _, x, _, _ => by
    cases x
    exact .nil
  | d :: ds, _, x, p, hu => by
    obtain ⟨v, vs, rfl, x1, x2⟩ := well_cons x
    have q : plW d = true ∧ plWs ds = true := Bool.and_eq_true_iff.mp p
    exact .cons (dw_one KX ar d v x1 q.1 (hu _ (List.mem_cons_self ..))) (dw_all KX ar ds vs x2 q.2 fun u m => hu u (List.mem_cons_of_mem _ m))
end
end
/-! ### the call -/
theorem spec_call {P : Program} {w : World} {K : PySem.W.Frag} {mg mb : Str → Option Value} {CX : CXT} {k : Nat} {fa : Addr} {fd : FuncData} {ps : List Str} {sp : Sp} {s₁ : Shared} {vals : List Value} {ds : List WData} {R : PySem.W.WRecords} {cl : Str → Option Addr} {d0 : WData}
    (KX : K.In s₁.heap) (hns : s₁.heap.Ns mainGlobals mg) (hb : s₁.heap.Ns builtinsNs mb) (hbb : ∀ x : Str, x ≠ "__name__" → mb x = bootBuiltins x) (hlim : s₁.heap.NoLimit) (hg : s₁.gens = #[])
    (hwl : WellAll w.params s₁.heap vals ds) (hpl : plWs ds = true) (hwt : ∀ d ∈ ds, d.weight ≤ 1048576) (hr : Room k callerA)
    (F : ∀ base : Heap, K.In base → base.Ns mainGlobals mg → FnOk P w K mg base CX k fa fd ps sp) (hbind : ∀ (s : Shared) (us : List Value), us.length = ps.length → BindsTo s fd ⟨us, []⟩ (ps.zip us)) (hlen : ds.length = ps.length)
    (hsp : ∀ (H : Hp) (xs : List V), OnlyF H → DwAll K H xs ds → sp xs H (fun v H' => Dw K H' v d0) fun _ _ _ => False)
    (hCX : ∀ H e s', CX [] H s₁ (fun _ _ _ => False) e s' → False) :
    codeAny (model P w) callerA (.call (.ref fa) ⟨vals, []⟩) (fun r s' => ∃ u as, r = .ok (.ret u) ∧ ReadsW R cl s'.heap u d0 as ∧ OldK s₁.heap s'.heap ∧ s'.os = s₁.os ∧ AllBare s'.gens) s₁ := by
  obtain ⟨A, ho, ar⟩ := area_all ds vals hwl hpl hwt
  have hO : OnlyF (argH K s₁.heap A) := argH_only ar
  have hok : HOk P w (argH K s₁.heap A) s₁.heap := argH_ok ar
  have hS := dw_all KX ar ds vals hwl hpl ho
  have hV := vals_toV ho
  have hK : ∀ b u, argH K s₁.heap A b = some u → K.lookup b = none := fun b u q => (argH_is ar q).1
  have noA : ∀ {b : Addr} {o : Obj} {es : Array DictEntry} {ep : Nat}, s₁.heap.get? b = some o → o.data = .dict es ep → argH K s₁.heap A b = none := fun {b o es ep} e d => by
    cases q : argH K s₁.heap A b with
    | none => rfl
    | some u =>
      obtain ⟨_, vs, _, _, ⟨e2, _⟩ | ⟨e2, _⟩⟩ := argH_is ar q
      · rw [e2] at e
        cases e
        have d' : Data.seq vs.toArray _ = Data.dict es ep := d
        cases d'
      · rw [e2] at e
        cases e
        have d' : Data.seq vs.toArray _ = Data.dict es ep := d
        cases d'
  generalize argH K s₁.heap A = H at hO hok hS hK noA
  have base_of : ∀ {b : Addr} {o : Obj}, s₁.heap.get? b = some o → H b = none → (hidT s₁.heap H).get? b = some o := fun e n => hidT_get e n
  have nsK : ∀ {b : Addr} {m : Str → Option Value}, s₁.heap.Ns b m → (hidT s₁.heap H).Ns b m := fun {b m} ⟨o, es, ep, e, d, r⟩ => ⟨o, es, ep, base_of e (noA e d), d, r⟩
  have nK : ∀ b o, K.lookup b = some o → H b = none := fun b o e => by
    cases q : H b with
    | none => rfl
    | some u =>
      rw [hK b u q] at e
      cases e
  have hKb : K.In (hidT s₁.heap H) := fun b o e => base_of (KX b o e) (nK b o e)
  have hM : Mod K mg (hidT s₁.heap H) := ⟨hKb, nsK hns, ⟨mb, nsK hb, hbb⟩, let ⟨mc, h1, h2⟩ := hlim; ⟨mc, nsK h1, h2⟩⟩
  have e0 : Env0 P w K mg (hidT s₁.heap H) callerA [] s₁ H := ⟨rfl, hM, fun b o e => of_hidT e, Nat.le_of_eq (hidT_size _ _), trivial, fun b hb => absurd (show b ∈ ([] : List Addr) from hb) (by simp), hok, .of_eq hg⟩
  have hl : vals.length = ps.length := by rw [wellAll_len hwl]; exact hlen
  refine codeAny_mono ((F _ hKb (nsK hns)).run callerA [] s₁ H ⟨vals, []⟩ vals (vals.map toV) _ _ hr e0 (hbind s₁ vals hl) hV (hsp H _ hO hS)) fun r s' x => ?_
  cases r with
  | error e => exact (hCX H e s' x).elim
  | ok fl =>
    cases fl with
    | next => exact False.elim x
    | brk => exact False.elim x
    | cont => exact False.elim x
    | ret u =>
      obtain ⟨v, H', os, bare, un, hok', r', q⟩ := x
      have kept : ∀ b o, s₁.heap.get? b = some o → s'.heap.get? b = some o := fun b o e => by
        cases q2 : H b with
        | none => exact un.keep b o e q2 (by intro z; exact absurd (show b ∈ ([] : List Addr) from z) (by simp)) (by simp)
        | some u2 =>
          rcases hO b with z | ⟨ob, u3, z⟩
          · rw [q2] at z
            cases z
          · have z2 := un.frzs b ob _ z
            obtain ⟨e1, _⟩ := hok b _ z
            obtain ⟨e2, _⟩ := hok' b _ z2
            rw [e] at e1
            cases e1
            exact e2
      have KX' : K.In s'.heap := fun b o e => kept b o (KX b o e)
      obtain ⟨as, hrd⟩ := Dw.reads (R := R) (cl := cl) hok' KX' d0 v u q r'
      exact ⟨u, as, rfl, hrd, OldK.of_keep kept, os, bare⟩
/-! ### the row -/
theorem layable_weight {ds : List WData} (h : WData.layableAll ds = true) : ∀ d ∈ ds, d.weight ≤ 1048576 := fun d hd =>
  (PySem.W.layableW_iff.mp (List.all_eq_true.mp h d hd)).2.2
theorem encAll_len : ∀ (cs : List Codec) (a : Codec.denoteAll cs), (Codec.encAll cs a).length = cs.length
  | [], _ => rfl
  | c :: cs, a => by
    show (Codec.encAll cs a.2).length + 1 = cs.length + 1
    rw [encAll_len cs a.2]
/-- the goal that k_headS leaves (case hc), from the promise of the row's def: whatever the arguments that the codecs let and the row asks for, the def gives what stands for enc (f ..) -/
theorem walk_spec {r : OpenSpec} {k : Nat} {q : Program} {loose : List Str} {XP : (Str → Option Value) → Heap → Prop} {YP : World → Heap → Prop} {d : DefRec} {K : Params → PySem.W.Frag} {CX : World → CXT} {ps : List Str} {sp : World → Sp}
    (hwell : r.wellSaid = true) (hdf : d.params.defaults = []) (hlen : r.args.length = ps.length) (hr : Room k callerA)
    (hY : ∀ (w : World) (h : Heap), YP w h → (K w.params).In h)
    (F : ∀ (w : World) (mg : Str → Option Value) (fa : Addr) (h : Heap), YP w h → (K w.params).In h → h.Ns mainGlobals mg → mg d.name = some (.ref fa) →
      ∃ fd : FuncData, (∀ (s : Shared) (us : List Value), us.length = ps.length → BindsTo s fd ⟨us, []⟩ (ps.zip us)) ∧
        ∀ base : Heap, (K w.params).In base → base.Ns mainGlobals mg → FnOk r.prog w (K w.params) mg base (CX w) k fa fd ps (sp w))
    (hsp : ∀ (w : World) (H : Hp) (xs : List V) (a : Codec.denoteAll r.args), OnlyF H → Codec.withinAll r.args a = true → Codec.app r.args r.asked a = true → DwAll (K w.params) H xs (Codec.encAll r.args a) →
      sp w xs H (fun v H' => Dw (K w.params) H' v (r.ret.enc (Codec.app r.args r.f a))) fun _ _ _ => False)
    (hCX : ∀ (w : World) (H : Hp) (s : Shared) (e : Value) (s' : Shared), CX w [] H s (fun _ _ _ => False) e s' → False) :
    PySem.W.WalkOS q loose XP YP r d [] (fun f vs => PySem.call f vs) := by
  intro w s_0 s₁ mg mb G Y fa o pm cd doc dV kV ho hd hcd hD hmg hg args vals as hpre hlay hrd hwl hlo
  obtain ⟨a, e1, e2⟩ := PySem.W.os_pre_some hpre
  obtain ⟨e3, hwi⟩ := Codec.encAll_of_decAll r.args args a e1
  subst e3
  have KX := hY w _ Y
  obtain ⟨fd, hb, hF⟩ := F w mg fa _ Y KX G.T.g hmg
  refine PySem.W.enter_call (codeAny_mono (spec_call (R := []) (cl := classAt s_0.heap) (d0 := r.ret.enc (Codec.app r.args r.f a)) KX G.T.g G.T.b G.T.builtins G.T.nolimit hg hwl (pl_encAll _ _) (layable_weight hlay) hr hF hb (by rw [encAll_len]; exact hlen)
    (fun H xs hO hS => hsp w H xs a hO hwi e2 hS) fun H e s' => hCX w H s₁ e s') fun r' s' hq => ?_)
  obtain ⟨u, as', rfl, h1, h2, h3, h4⟩ := hq
  exact ⟨.inl ⟨u, _, as', rfl, fun _ => rfl, h1, (OpenSpec.post_iff hwell hwi _ _).mpr rfl, fun z => Bool.noConfusion (show false = true from z)⟩, h2, h3, h4⟩
/-- the same where the promise hangs on the written part alone -/
theorem walk_specK {r : OpenSpec} {k : Nat} {q : Program} {loose : List Str} {XP : (Str → Option Value) → Heap → Prop} {YP : World → Heap → Prop} {d : DefRec} {K : Params → PySem.W.Frag} {CX : CXT} {ps : List Str} {sp : PySem.W.Frag → Sp}
    (hwell : r.wellSaid = true) (hdf : d.params.defaults = []) (hlen : r.args.length = ps.length) (hr : Room k callerA)
    (hY : ∀ (w : World) (h : Heap), YP w h → (K w.params).In h)
    (F : ∀ (w : World) (mg : Str → Option Value) (fa : Addr) (h : Heap), YP w h → (K w.params).In h → h.Ns mainGlobals mg → mg d.name = some (.ref fa) →
      ∃ fd : FuncData, (∀ (s : Shared) (us : List Value), us.length = ps.length → BindsTo s fd ⟨us, []⟩ (ps.zip us)) ∧
        ∀ base : Heap, (K w.params).In base → base.Ns mainGlobals mg → FnOk r.prog w (K w.params) mg base CX k fa fd ps (sp (K w.params)))
    (hsp : ∀ (K : PySem.W.Frag) (H : Hp) (xs : List V) (a : Codec.denoteAll r.args), OnlyF H → Codec.withinAll r.args a = true → Codec.app r.args r.asked a = true → DwAll K H xs (Codec.encAll r.args a) →
      sp K xs H (fun v H' => Dw K H' v (r.ret.enc (Codec.app r.args r.f a))) fun _ _ _ => False)
    (hCX : ∀ (H : Hp) (s : Shared) (e : Value) (s' : Shared), CX [] H s (fun _ _ _ => False) e s' → False) :
    PySem.W.WalkOS q loose XP YP r d [] (fun f vs => PySem.call f vs) :=
  walk_spec (K := K) (CX := fun _ => CX) (sp := fun w => sp (K w.params)) hwell hdf hlen hr hY F (fun w H xs a h1 h2 h3 h4 => hsp (K w.params) H xs a h1 h2 h3 h4) fun _ H s e s' => hCX H s e s'
end L2
end

/-! The landed program's defs as total functions over whole numbers, and that they are what the document's specification says. -/
namespace Cp
open Sf68 (El Tower at_ plus neg less times sgn el tower)
def radI (d : List Int) (n : Nat) : List Int := (d.drop (n - 1)).take n
def totI (x y : List Int) : List Int := List.zipWith (fun p q => p + q) x y
def difI (x y : List Int) : List Int := List.zipWith (fun p q => p - q) x y
def prodI (d : List Int) : Nat → List Int → List Int → List Int
  | 0, x, y => [x.getD 0 0 * y.getD 0 0]
  | j + 1, x, y =>
    totI (prodI d j (x.take (2 ^ j)) (y.take (2 ^ j))) (prodI d j (prodI d j (x.drop (2 ^ j)) (y.drop (2 ^ j))) (radI d (2 ^ j))) ++
      totI (prodI d j (x.take (2 ^ j)) (y.drop (2 ^ j))) (prodI d j (x.drop (2 ^ j)) (y.take (2 ^ j)))
def sgI (z : Int) : Int := if 0 < z then 1 else if z < 0 then -1 else 0
/-- what decides where the halves pull apart -/
def apartI (d : List Int) (j : Nat) (a b : List Int) : List Int := difI (prodI d j a a) (prodI d j (prodI d j b b) (radI d (2 ^ j)))
def sideI (d : List Int) : Nat → List Int → Int
  | 0, x => sgI (x.getD 0 0)
  | j + 1, x =>
    if sideI d j (x.take (2 ^ j)) = 0 then sideI d j (x.drop (2 ^ j))
    else if sideI d j (x.drop (2 ^ j)) = 0 ∨ sideI d j (x.take (2 ^ j)) = sideI d j (x.drop (2 ^ j)) then sideI d j (x.take (2 ^ j))
    else sideI d j (x.take (2 ^ j)) * sideI d j (apartI d j (x.take (2 ^ j)) (x.drop (2 ^ j)))
theorem side_succ (d : List Int) (j : Nat) (x : List Int) : sideI d (j + 1) x = if sideI d j (x.take (2 ^ j)) = 0 then sideI d j (x.drop (2 ^ j))
    else if sideI d j (x.drop (2 ^ j)) = 0 ∨ sideI d j (x.take (2 ^ j)) = sideI d j (x.drop (2 ^ j)) then sideI d j (x.take (2 ^ j))
    else sideI d j (x.take (2 ^ j)) * sideI d j (apartI d j (x.take (2 ^ j)) (x.drop (2 ^ j))) := rfl
theorem pow_pos2 (j : Nat) : 0 < 2 ^ j := Nat.pow_pos (by decide)
theorem pow_succ2 (j : Nat) : 2 ^ (j + 1) = 2 ^ j + 2 ^ j := by rw [Nat.pow_succ]; omega
theorem len_rad {d : List Int} {n : Nat} (h : 2 * n - 1 ≤ d.length) : (radI d n).length = n := by
  unfold radI
  rw [List.length_take, List.length_drop]
  omega
theorem len_tot {x y : List Int} {n : Nat} (hx : x.length = n) (hy : y.length = n) : (totI x y).length = n := by
  unfold totI
  rw [List.length_zipWith, hx, hy, Nat.min_self]
theorem len_dif {x y : List Int} {n : Nat} (hx : x.length = n) (hy : y.length = n) : (difI x y).length = n := by
  unfold difI
  rw [List.length_zipWith, hx, hy, Nat.min_self]
theorem len_lo {x : List Int} {j : Nat} (hx : x.length = 2 ^ (j + 1)) : (x.take (2 ^ j)).length = 2 ^ j := by
  rw [List.length_take, hx, pow_succ2]
  omega
theorem len_hi {x : List Int} {j : Nat} (hx : x.length = 2 ^ (j + 1)) : (x.drop (2 ^ j)).length = 2 ^ j := by
  rw [List.length_drop, hx, pow_succ2]
  omega
theorem len_prod {d : List Int} : ∀ {j : Nat} {x y : List Int}, 2 ^ j - 1 ≤ d.length → x.length = 2 ^ j → y.length = 2 ^ j → (prodI d j x y).length = 2 ^ j
  | 0, x, y, _, _, _ => rfl
  | j + 1, x, y, hd, hx, hy => by
    have hd0 : 2 ^ j - 1 ≤ d.length := by rw [pow_succ2] at hd; omega
    have hr : (radI d (2 ^ j)).length = 2 ^ j := len_rad (by rw [pow_succ2] at hd; omega)
    unfold prodI
    rw [List.length_append, len_tot (n := 2 ^ j) (len_prod hd0 (len_lo hx) (len_lo hy)) (len_prod hd0 (len_prod hd0 (len_hi hx) (len_hi hy)) hr),
      len_tot (n := 2 ^ j) (len_prod hd0 (len_lo hx) (len_hi hy)) (len_prod hd0 (len_hi hx) (len_lo hy)), pow_succ2]
theorem len_apart {d a b : List Int} {j : Nat} (hd : 2 ^ (j + 1) - 1 ≤ d.length) (ha : a.length = 2 ^ j) (hb : b.length = 2 ^ j) : (apartI d j a b).length = 2 ^ j := by
  have hd0 : 2 ^ j - 1 ≤ d.length := by rw [pow_succ2] at hd; omega
  have hr : (radI d (2 ^ j)).length = 2 ^ j := len_rad (by rw [pow_succ2] at hd; omega)
  exact len_dif (len_prod hd0 ha ha) (len_prod hd0 (len_prod hd0 hb hb) hr)
/-! ### the same over fractions -/
theorem at_el (x : List Int) (i : Nat) : at_ (el x) i = ((x.getD i 0 : Int) : Rat) := by
  unfold at_ el
  rw [List.getD_eq_getElem?_getD, List.getD_eq_getElem?_getD, List.getElem?_map]
  cases x[i]? <;> simp
theorem len_el (x : List Int) : (el x).length = x.length := by unfold el; rw [List.length_map]
theorem el_take (x : List Int) (n : Nat) : (el x).take n = el (x.take n) := by unfold el; rw [List.map_take]
theorem el_drop (x : List Int) (n : Nat) : (el x).drop n = el (x.drop n) := by unfold el; rw [List.map_drop]
theorem el_app (x y : List Int) : el x ++ el y = el (x ++ y) := by unfold el; rw [List.map_append]
theorem plus_el {x y : List Int} (h : x.length = y.length) : plus (el x) (el y) = el (totI x y) := by
  apply List.ext_getElem?
  intro i
  unfold plus
  rw [len_el, len_el, ← h, Nat.max_self, List.getElem?_map]
  by_cases hi : i < x.length
  · have hy : i < y.length := by omega
    rw [List.getElem?_range hi]
    simp only [Option.map_some, at_el]
    unfold el totI
    rw [List.getElem?_map, List.getElem?_zipWith, List.getElem?_eq_getElem hi, List.getElem?_eq_getElem hy]
    simp [List.getD_eq_getElem?_getD, hi, hy, Rat.intCast_add]
  · have e1 : (List.range x.length)[i]? = none := by rw [List.getElem?_eq_none_iff, List.length_range]; omega
    have e2 : (el (totI x y))[i]? = none := by
      rw [List.getElem?_eq_none_iff, len_el, len_tot (n := x.length) rfl h.symm]; omega
    rw [e1, e2]
    rfl
theorem neg_el (y : List Int) : neg (el y) = el (y.map fun z => -z) := by
  unfold neg el
  rw [List.map_map, List.map_map]
  apply List.map_congr_left
  intro z _
  simp [Rat.intCast_neg]
theorem dif_tot : ∀ (x y : List Int), difI x y = totI x (y.map fun z => -z)
  | [], _ => by simp [difI, totI]
  | _ :: _, [] => by simp [difI, totI]
  | a :: x, b :: y => by
    have ih := dif_tot x y
    unfold difI totI at ih ⊢
    rw [List.map_cons, List.zipWith_cons_cons, List.zipWith_cons_cons, ih]
    congr 1
theorem less_el {x y : List Int} (h : x.length = y.length) : less (el x) (el y) = el (difI x y) := by
  unfold less
  rw [neg_el, plus_el (by rw [List.length_map]; exact h), dif_tot]
theorem tower_len (j : Nat) (d : List Int) : (tower j d).length = j := by
  unfold tower
  rw [List.length_map, List.length_reverse, List.length_range]
theorem tower_succ (j : Nat) (d : List Int) : tower (j + 1) d = el (radI d (2 ^ j)) :: tower j d := by
  unfold tower radI
  rw [List.range_succ, List.reverse_append]
  rfl
theorem times_el {d : List Int} : ∀ {j : Nat} {x y : List Int}, 2 ^ j - 1 ≤ d.length → x.length = 2 ^ j → y.length = 2 ^ j → times (tower j d) (el x) (el y) = el (prodI d j x y)
  | 0, x, y, _, _, _ => by
    show [at_ (el x) 0 * at_ (el y) 0] = el (prodI d 0 x y)
    rw [at_el, at_el, ← Rat.intCast_mul]
    rfl
  | j + 1, x, y, hd, hx, hy => by
    have hd0 : 2 ^ j - 1 ≤ d.length := by rw [pow_succ2] at hd; omega
    have hr : (radI d (2 ^ j)).length = 2 ^ j := len_rad (by rw [pow_succ2] at hd; omega)
    have lx := len_lo hx
    have hx' := len_hi hx
    have ly := len_lo hy
    have hy' := len_hi hy
    have p1 := len_prod hd0 hx' hy'
    rw [tower_succ]
    unfold times
    simp only [tower_len, el_take, el_drop]
    rw [times_el hd0 lx ly, times_el hd0 hx' hy', times_el hd0 p1 hr, times_el hd0 lx hy', times_el hd0 hx' ly,
      plus_el (by rw [len_prod hd0 lx ly, len_prod hd0 p1 hr]), plus_el (by rw [len_prod hd0 lx hy', len_prod hd0 hx' ly]), el_app]
    rfl
theorem sgn_el (z : Int) : sgn (z : Rat) = sgI z := by
  unfold sgn sgI
  have e1 : ((0 : Rat) < (z : Rat)) = (0 < z) := by
    apply propext
    rw [show (0 : Rat) = ((0 : Int) : Rat) from rfl]
    exact Rat.intCast_lt_intCast
  have e2 : ((z : Rat) < (0 : Rat)) = (z < 0) := by
    apply propext
    rw [show (0 : Rat) = ((0 : Int) : Rat) from rfl]
    exact Rat.intCast_lt_intCast
  simp only [e1, e2]
theorem sign_el {d : List Int} : ∀ {j : Nat} {x : List Int}, 2 ^ j - 1 ≤ d.length → x.length = 2 ^ j → Sf68.sign (tower j d) (el x) = sideI d j x
  | 0, x, _, _ => by
    show sgn (at_ (el x) 0) = sideI d 0 x
    rw [at_el, sgn_el]
    rfl
  | j + 1, x, hd, hx => by
    have hd0 : 2 ^ j - 1 ≤ d.length := by rw [pow_succ2] at hd; omega
    have hr : (radI d (2 ^ j)).length = 2 ^ j := len_rad (by rw [pow_succ2] at hd; omega)
    have lx := len_lo hx
    have hx' := len_hi hx
    have p1 := len_prod hd0 hx' hx'
    rw [tower_succ]
    unfold Sf68.sign
    simp only [tower_len, el_take, el_drop]
    rw [times_el hd0 lx lx, times_el hd0 hx' hx', times_el hd0 p1 hr, less_el (by rw [len_prod hd0 lx lx, len_prod hd0 p1 hr]), sign_el hd0 lx, sign_el hd0 hx', show difI (prodI d j (x.take (2 ^ j)) (x.take (2 ^ j))) (prodI d j (prodI d j (x.drop (2 ^ j)) (x.drop (2 ^ j))) (radI d (2 ^ j))) = apartI d j (x.take (2 ^ j)) (x.drop (2 ^ j)) from rfl, sign_el hd0 (len_apart hd lx hx')]
    rw [side_succ]
    by_cases e1 : sideI d j (x.take (2 ^ j)) = sideI d j (x.drop (2 ^ j))
    · rw [if_pos e1]
      by_cases e2 : sideI d j (x.take (2 ^ j)) = 0
      · rw [if_pos e2]; exact e1
      · rw [if_neg e2, if_pos (Or.inr e1)]
    · rw [if_neg e1]
      by_cases e2 : sideI d j (x.take (2 ^ j)) = 0
      · rw [if_pos e2, if_pos e2]
      · rw [if_neg e2, if_neg e2]
        by_cases e3 : sideI d j (x.drop (2 ^ j)) = 0
        · rw [if_pos e3, if_pos (Or.inl e3)]
        · rw [if_neg e3, if_neg (by intro h; rcases h with h | h; exact e3 h; exact e1 h)]
/-! ### how great the numbers become -/
theorem side_range (d : List Int) : ∀ (j : Nat) (x : List Int), -1 ≤ sideI d j x ∧ sideI d j x ≤ 1
  | 0, x => by
    show -1 ≤ sgI _ ∧ sgI _ ≤ 1
    unfold sgI
    split
    · omega
    · split <;> omega
  | j + 1, x => by
    have h1 := side_range d j (x.take (2 ^ j))
    have h2 := side_range d j (x.drop (2 ^ j))
    have h3 := side_range d j (apartI d j (x.take (2 ^ j)) (x.drop (2 ^ j)))
    unfold sideI
    split
    · exact h2
    · split
      · exact h1
      · generalize sideI d j (x.take (2 ^ j)) = s at h1
        generalize sideI d j (apartI d j (x.take (2 ^ j)) (x.drop (2 ^ j))) = t at h3
        have : s = -1 ∨ s = 0 ∨ s = 1 := by omega
        rcases this with e | e | e <;> subst e <;> omega
/-- every number of the row has fewer than m + 1 binary digits -/
def Bd (m : Nat) (x : List Int) : Prop := ∀ z ∈ x, z.natAbs < 2 ^ m
theorem Bd.mono {m n : Nat} {x : List Int} (h : Bd m x) (l : m ≤ n) : Bd n x := fun z hz => Nat.lt_of_lt_of_le (h z hz) (Nat.pow_le_pow_right (by decide) l)
theorem Bd.take {m : Nat} {x : List Int} (h : Bd m x) (n : Nat) : Bd m (x.take n) := fun z hz => h z (List.mem_of_mem_take hz)
theorem Bd.drop {m : Nat} {x : List Int} (h : Bd m x) (n : Nat) : Bd m (x.drop n) := fun z hz => h z (List.mem_of_mem_drop hz)
theorem Bd.rad {m : Nat} {d : List Int} (h : Bd m d) (n : Nat) : Bd m (radI d n) := (h.drop _).take _
theorem Bd.app {m : Nat} {x y : List Int} (h : Bd m x) (k : Bd m y) : Bd m (x ++ y) := fun z hz => (List.mem_append.mp hz).elim (h z) (k z)
theorem mem_zip {α : Type} {f : Int → Int → α} : ∀ {x y : List Int} {z : α}, z ∈ List.zipWith f x y → ∃ p ∈ x, ∃ q ∈ y, z = f p q
  | [], _, _, h => by simp at h
  | _ :: _, [], _, h => by simp at h
  | a :: x, b :: y, z, h => by
    rw [List.zipWith_cons_cons] at h
    rcases List.mem_cons.mp h with e | h
    · exact ⟨a, List.mem_cons_self .., b, List.mem_cons_self .., e⟩
    · obtain ⟨p, hp, q, hq, e⟩ := mem_zip h
      exact ⟨p, List.mem_cons_of_mem _ hp, q, List.mem_cons_of_mem _ hq, e⟩
theorem pow_dbl (m : Nat) : 2 ^ m + 2 ^ m = 2 ^ (m + 1) := (pow_succ2 m).symm
theorem Bd.tot {m : Nat} {x y : List Int} (h : Bd m x) (k : Bd m y) : Bd (m + 1) (totI x y) := fun z hz => by
  obtain ⟨p, hp, q, hq, rfl⟩ := mem_zip hz
  have h1 := h p hp
  have h2 := k q hq
  rw [← pow_dbl]
  omega
theorem Bd.dif {m : Nat} {x y : List Int} (h : Bd m x) (k : Bd m y) : Bd (m + 1) (difI x y) := fun z hz => by
  obtain ⟨p, hp, q, hq, rfl⟩ := mem_zip hz
  have h1 := h p hp
  have h2 := k q hq
  rw [← pow_dbl]
  omega
theorem Bd.getD {m : Nat} {x : List Int} (h : Bd m x) (i : Nat) : (x.getD i 0).natAbs < 2 ^ m := by
  rw [List.getD_eq_getElem?_getD]
  cases e : x[i]? with
  | none => exact pow_pos2 m
  | some z => exact h z (List.mem_of_getElem? e)
theorem Bd.prod {d : List Int} (hd : Bd 7 d) : ∀ {j m n : Nat} {x y : List Int}, Bd m x → Bd n y → Bd (m + n + (8 * 2 ^ j - 8)) (prodI d j x y)
  | 0, m, n, x, y, hx, hy => fun z hz => by
    have e : z = x.getD 0 0 * y.getD 0 0 := by
      unfold prodI at hz
      simpa using hz
    rw [e, Int.natAbs_mul]
    show _ < 2 ^ (m + n)
    rw [Nat.pow_add]
    exact Nat.mul_lt_mul'' (hx.getD 0) (hy.getD 0)
  | j + 1, m, n, x, y, hx, hy => by
    have p := pow_pos2 j
    have b1 := Bd.prod hd (j := j) (hx.take (2 ^ j)) (hy.take (2 ^ j))
    have b2 := Bd.prod hd (j := j) (Bd.prod hd (j := j) (hx.drop (2 ^ j)) (hy.drop (2 ^ j))) (hd.rad (2 ^ j))
    have b3 := Bd.prod hd (j := j) (hx.take (2 ^ j)) (hy.drop (2 ^ j))
    have b4 := Bd.prod hd (j := j) (hx.drop (2 ^ j)) (hy.take (2 ^ j))
    have e := pow_succ2 j
    unfold prodI
    refine Bd.app (Bd.mono (Bd.tot (b1.mono (Nat.le_add_right _ (7 + (8 * 2 ^ j - 8)))) (b2.mono ?_)) ?_) (Bd.mono (Bd.tot b3 b4) ?_)
    · omega
    · omega
    · omega
theorem Bd.apart {d a b : List Int} {j m : Nat} (hd : Bd 7 d) (ha : Bd m a) (hb : Bd m b) : Bd (2 * m + 16 * 2 ^ j) (apartI d j a b) := by
  have p := pow_pos2 j
  have b1 := Bd.prod hd (j := j) ha ha
  have b2 := Bd.prod hd (j := j) (Bd.prod hd (j := j) hb hb) (hd.rad (2 ^ j))
  unfold apartI
  refine Bd.mono (Bd.dif (b1.mono (Nat.le_add_right _ (7 + (8 * 2 ^ j - 8)))) (b2.mono ?_)) ?_
  · omega
  · omega
/-! ### what is handed in -/
def absI (z : Int) : Int := if z < 0 then -z else z
def rowI (row : List Int) (n far : Int) : Bool := decide ((row.length : Int) = n) && row.all fun z => decide (absI z ≤ far)
def allowI (k : Int) (d : List Int) (ns : List (List Int)) : Bool :=
  if k < 0 ∨ 3 < k then false else rowI d (((2 ^ k.toNat : Nat) : Int) - 1) 100 && ns.all fun x => rowI x ((2 ^ k.toNat : Nat) : Int) 1000
def rootsI (k : Nat) (d : List Int) : Bool := (List.range k).all fun j => decide (0 < sideI d j (radI d (2 ^ j)))
def refI (k : Int) (d : List Int) (ns : List (List Int)) : Int := if allowI k d ns = false then -2 else if rootsI k.toNat d = false then -3 else 0
theorem small_row (most : Nat) (l : List Int) : Sf68.small most l = l.all fun z => decide (absI z ≤ (most : Int)) := by
  unfold Sf68.small
  congr 1
  funext z
  unfold absI
  apply decide_eq_decide.mpr
  split <;> omega
theorem row_eq (l : List Int) (n most : Nat) : rowI l (n : Int) (most : Int) = (l.length == n && Sf68.small most l) := by
  unfold rowI
  rw [small_row]
  congr 1
  rw [Bool.eq_iff_iff]
  simp
  omega
theorem all_and {α : Type} (p q : α → Bool) : ∀ l : List α, l.all (fun x => p x && q x) = (l.all p && l.all q)
  | [] => rfl
  | a :: l => by
    simp only [List.all_cons, all_and p q l]
    cases p a <;> cases q a <;> cases l.all p <;> cases l.all q <;> rfl
theorem allow_eq (k : Int) (d : List Int) (ns : List (List Int)) : Se04.parts k d ns = allowI k d ns := by
  unfold Se04.parts Sf68.ok allowI Sf68.within Sf68.ROOTS Sf68.RADICAND Sf68.PART
  by_cases h : k < 0 ∨ 3 < k
  · rw [if_pos h]
    have e : (decide (((0 : Nat) : Int) ≤ k) && decide (k ≤ ((3 : Nat) : Int))) = false := by
      rw [Bool.and_eq_false_iff]
      simp only [decide_eq_false_iff_not]
      omega
    rw [e]
    rfl
  · rw [if_neg h]
    have e : (decide (((0 : Nat) : Int) ≤ k) && decide (k ≤ ((3 : Nat) : Int))) = true := by
      rw [Bool.and_eq_true]
      simp only [decide_eq_true_eq]
      omega
    have p := pow_pos2 k.toNat
    have e2 : ((2 ^ k.toNat : Nat) : Int) - 1 = ((2 ^ k.toNat - 1 : Nat) : Int) := by omega
    have e3 : (fun x : List Int => rowI x ((2 ^ k.toNat : Nat) : Int) 1000) = fun x => (x.length == 2 ^ k.toNat && Sf68.small 1000 x) := by
      funext x
      exact row_eq x (2 ^ k.toNat) 1000
    rw [e, e2, show (100 : Int) = ((100 : Nat) : Int) from rfl, row_eq, e3, all_and]
    generalize Sf68.small 100 d = b1
    generalize ns.all (Sf68.small 1000) = b2
    generalize (ns.all fun x => x.length == 2 ^ k.toNat) = b3
    generalize (d.length == 2 ^ k.toNat - 1) = b4
    cases b1 <;> cases b2 <;> cases b3 <;> cases b4 <;> rfl
theorem allow_is {k : Int} {d : List Int} {ns : List (List Int)} (h : allowI k d ns = true) :
    0 ≤ k ∧ k ≤ 3 ∧ d.length = 2 ^ k.toNat - 1 ∧ Bd 7 d ∧ ∀ x ∈ ns, x.length = 2 ^ k.toNat ∧ Bd 10 x := by
  unfold allowI at h
  by_cases hk : k < 0 ∨ 3 < k
  · rw [if_pos hk] at h
    cases h
  · rw [if_neg hk, Bool.and_eq_true] at h
    have p := pow_pos2 k.toNat
    obtain ⟨h1, h2⟩ := h
    have key : ∀ (l : List Int) (n far : Int) (m : Nat), far < 2 ^ m → rowI l n far = true → (l.length : Int) = n ∧ Bd m l := by
      intro l n far m hf q
      unfold rowI at q
      rw [Bool.and_eq_true, decide_eq_true_eq, List.all_eq_true] at q
      refine ⟨q.1, fun z hz => ?_⟩
      have q2 := q.2 z hz
      rw [decide_eq_true_eq] at q2
      unfold absI at q2
      have q3 : ((z.natAbs : Nat) : Int) < ((2 ^ m : Nat) : Int) := by
        rw [Int.natCast_pow]
        refine Int.lt_of_le_of_lt ?_ hf
        split at q2 <;> omega
      omega
    have a1 := key d _ 100 7 (by decide) h1
    refine ⟨by omega, by omega, by omega, a1.2, fun x hx => ?_⟩
    have a2 := key x _ 1000 10 (by decide) (List.all_eq_true.mp h2 x hx)
    exact ⟨by omega, a2.2⟩
theorem valid_eq {d : List Int} : ∀ {j : Nat}, 2 ^ j - 1 ≤ d.length → Se04.valid (tower j d) = rootsI j d
  | 0, _ => rfl
  | j + 1, hd => by
    have hd0 : 2 ^ j - 1 ≤ d.length := by rw [pow_succ2] at hd; omega
    have hr : (radI d (2 ^ j)).length = 2 ^ j := len_rad (by rw [pow_succ2] at hd; omega)
    rw [tower_succ]
    unfold Se04.valid rootsI
    rw [tower_len, len_el, hr, sign_el hd0 hr, valid_eq hd0, List.range_succ, List.all_append]
    unfold rootsI
    have s := side_range d j (radI d (2 ^ j))
    have e : (sideI d j (radI d (2 ^ j)) == 1) = decide (0 < sideI d j (radI d (2 ^ j))) := by
      rw [Bool.eq_iff_iff, beq_iff_eq, decide_eq_true_eq]
      omega
    rw [e]
    simp
theorem sign_is (k : Int) (d x : List Int) : PySe04.sign k d x = if refI k d [x] = 0 then [sideI d k.toNat x + 1] else [refI k d [x]] := by
  show (let y := Se04.does (.sign k d x); y.value :: y.out) = _
  unfold Se04.does refI
  dsimp only
  rw [allow_eq]
  by_cases h : allowI k d [x] = false
  · simp [h, Se04.only]
  · have h' : allowI k d [x] = true := by simpa using h
    obtain ⟨_, _, hd, _, hx⟩ := allow_is h'
    have hx := hx x (by simp)
    rw [valid_eq (by omega), sign_el (by omega) hx.1]
    by_cases hv : rootsI k.toNat d = false
    · simp [h, hv, Se04.only]
    · simp [h, hv, Se04.only]
theorem compare_is (k : Int) (d x y : List Int) : PySe04.compare k d x y = if refI k d [x, y] = 0 then [sideI d k.toNat (difI x y) + 1] else [refI k d [x, y]] := by
  show (let y := Se04.does (.compare k d x y); y.value :: y.out) = _
  unfold Se04.does refI
  dsimp only
  rw [allow_eq]
  by_cases h : allowI k d [x, y] = false
  · simp [h, Se04.only]
  · have h' : allowI k d [x, y] = true := by simpa using h
    obtain ⟨_, _, hd, _, hxy⟩ := allow_is h'
    have hx := hxy x (by simp)
    have hy := hxy y (by simp)
    rw [valid_eq (by omega), less_el (by rw [hx.1, hy.1]), sign_el (by omega) (len_dif hx.1 hy.1)]
    by_cases hv : rootsI k.toNat d = false
    · simp [h, hv, Se04.only]
    · simp [h, hv, Se04.only]
theorem num_el (l : List Int) : (el l).map (fun q : Rat => q.num) = l := by
  unfold el
  rw [List.map_map]
  conv => rhs; rw [← List.map_id l]
  apply List.map_congr_left
  intro z _
  simp
theorem times_is (k : Int) (d x y : List Int) : PySe04.times k d x y = if allowI k d [x, y] = false then [-2] else 0 :: prodI d k.toNat x y := by
  show (let y := Se04.does (.times k d x y); y.value :: y.out) = _
  unfold Se04.does
  dsimp only
  rw [allow_eq]
  by_cases h : allowI k d [x, y] = false
  · simp [h, Se04.only]
  · have h' : allowI k d [x, y] = true := by simpa using h
    obtain ⟨_, _, hd, _, hxy⟩ := allow_is h'
    have hx := hxy x (by simp)
    have hy := hxy y (by simp)
    rw [times_el (by omega) hx.1 hy.1, num_el]
    simp [h]
end Cp

set_option linter.all false
/-! Rational roots of a polynomial, whole roots of the cubic: what the specification looks for is just that there is one. -/
namespace Rt
/-- the polynomial's value at a by b, times b's: by its first coefficient and the others -/
def H : List Int → Int → Int → Int
  | [], _, _ => 0
  | c :: l, a, b => c * b ^ l.length + a * H l a b
theorem sum_cons_map (c : Int) (l : List Int) (f : Nat → Int) : ((List.range (l.length + 1)).map f).sum = f 0 + ((List.range l.length).map fun i => f (i + 1)).sum := by
  rw [List.range_succ_eq_map, List.map_cons, List.sum_cons, List.map_map]
  rfl
theorem sum_mul (a : Int) (f : Nat → Int) : ∀ l : List Nat, (l.map fun i => a * f i).sum = a * (l.map f).sum
  | [] => by simp
  | x :: l => by
    rw [List.map_cons, List.map_cons, List.sum_cons, List.sum_cons, sum_mul a f l, Int.mul_add]
theorem value_H : ∀ (p : List Int) (a b : Int), Se04.valueAt p a b = H p a b
  | [], a, b => rfl
  | c :: l, a, b => by
    have ih := value_H l a b
    unfold H
    rw [← ih]
    unfold Se04.valueAt
    rw [List.length_cons, sum_cons_map c l]
    congr 1
    · rw [Int.pow_zero, Int.one_mul]
      rfl
    · rw [← sum_mul]
      congr 1
      apply List.map_congr_left
      intro i hi
      have hi := List.mem_range.mp hi
      rw [show l.length + 1 - 1 - (i + 1) = l.length - 1 - i by omega, Int.pow_succ]
      show l.getD i 0 * (a ^ i * a * b ^ (l.length - 1 - i)) = a * (l.getD i 0 * (a ^ i * b ^ (l.length - 1 - i)))
      grind
theorem H_last : ∀ (l : List Int) (c a b : Int), H (l ++ [c]) a b = b * H l a b + c * a ^ l.length
  | [], c, a, b => by
    show c * b ^ 0 + a * 0 = b * 0 + c * a ^ 0
    simp
  | x :: l, c, a, b => by
    have ih := H_last l c a b
    show x * b ^ (l ++ [c]).length + a * H (l ++ [c]) a b = b * (x * b ^ l.length + a * H l a b) + c * a ^ (l.length + 1)
    rw [ih, List.length_append, List.length_singleton, Int.pow_succ, Int.pow_succ]
    grind
theorem H_scale (g a b : Int) : ∀ p : List Int, g * H p (g * a) (g * b) = g ^ p.length * H p a b
  | [] => by simp [H]
  | c :: l => by
    have ih := H_scale g a b l
    show g * (c * (g * b) ^ l.length + g * a * H l (g * a) (g * b)) = g ^ (l.length + 1) * (c * b ^ l.length + a * H l a b)
    rw [Int.mul_pow, Int.pow_succ]
    grind
/-- a fraction by two numbers that have no common divisor -/
theorem lowest (a b : Int) (hb : 0 < b) : ∃ g a' b' : Int, g ≠ 0 ∧ a = g * a' ∧ b = g * b' ∧ 0 < b' ∧ Nat.Coprime a'.natAbs b'.natAbs := by
  have hg : 0 < a.natAbs.gcd b.natAbs := Nat.gcd_pos_of_pos_right _ (by omega)
  obtain ⟨u, hu⟩ := Nat.gcd_dvd_left a.natAbs b.natAbs
  obtain ⟨v, hv⟩ := Nat.gcd_dvd_right a.natAbs b.natAbs
  have c := Nat.coprime_div_gcd_div_gcd hg
  have eu : a.natAbs / a.natAbs.gcd b.natAbs = u := Nat.div_eq_of_eq_mul_right hg hu
  have ev : b.natAbs / a.natAbs.gcd b.natAbs = v := Nat.div_eq_of_eq_mul_right hg hv
  rw [eu, ev] at c
  generalize a.natAbs.gcd b.natAbs = g at hg hu hv
  have e2 : b = (g : Int) * (v : Int) := by
    rw [← Int.natCast_mul, ← hv]
    omega
  have v0 : 0 < v := Nat.pos_of_ne_zero fun q => by
    subst q
    rw [Nat.mul_zero] at hv
    omega
  by_cases h : 0 ≤ a
  · refine ⟨(g : Int), (u : Int), (v : Int), by omega, ?_, e2, by omega, ?_⟩
    · rw [← Int.natCast_mul, ← hu]
      omega
    · rw [Int.natAbs_natCast, Int.natAbs_natCast]
      exact c
  · refine ⟨(g : Int), -(u : Int), (v : Int), by omega, ?_, e2, by omega, ?_⟩
    · rw [Int.mul_neg, ← Int.natCast_mul, ← hu]
      omega
    · rw [Int.natAbs_neg, Int.natAbs_natCast, Int.natAbs_natCast]
      exact c
theorem dvd_cop {a b c : Int} {n : Nat} (h : a ∣ c * b ^ n) (k : Nat.Coprime a.natAbs b.natAbs) : a ∣ c := by
  have q := Int.natAbs_dvd_natAbs.mpr h
  rw [Int.natAbs_mul, Int.natAbs_pow] at q
  exact Int.natAbs_dvd_natAbs.mp (Nat.Coprime.dvd_of_dvd_mul_right (Nat.Coprime.pow_right n k) q)
theorem mem_divisors {z : Int} (hz : z ≠ 0) {a : Nat} (h : a ∣ z.natAbs) : a ∈ Se04.divisors z := by
  have p : 0 < z.natAbs := by omega
  unfold Se04.divisors
  rw [List.mem_filter, List.mem_range]
  have l := Nat.le_of_dvd p h
  have a0 : 1 ≤ a := Nat.pos_of_dvd_of_pos h p
  refine ⟨by omega, ?_⟩
  rw [Bool.and_eq_true, decide_eq_true_eq, beq_iff_eq]
  exact ⟨a0, Nat.mod_eq_zero_of_dvd h⟩
theorem of_divisors {z : Int} {a : Nat} (h : a ∈ Se04.divisors z) : 1 ≤ a := by
  unfold Se04.divisors at h
  rw [List.mem_filter, Bool.and_eq_true, decide_eq_true_eq] at h
  exact h.2.1
theorem last_is (p : List Int) (hp : p ≠ []) : p = p.dropLast ++ [p.getLastD 1] := by
  cases p with
  | nil => exact (hp rfl).elim
  | cons c l =>
    exact (List.dropLast_concat_getLast (by simp)).symm
/-- the specification's look for a rational root finds one just where there is one -/
theorem rational_iff (p : List Int) (hp : p ≠ []) (hl : p.getLastD 1 ≠ 0) : Se04.rational p = true ↔ ∃ a b : Int, 0 < b ∧ Se04.valueAt p a b = 0 := by
  have key : ∀ a b, Se04.valueAt p a b = H p a b := value_H p
  unfold Se04.rational
  rw [Bool.or_eq_true, beq_iff_eq, List.any_eq_true]
  constructor
  · rintro (h | ⟨a, ha, h⟩)
    · refine ⟨0, 1, by decide, ?_⟩
      rw [key]
      cases p with
      | nil => exact (hp rfl).elim
      | cons c l =>
        have h : c = 0 := h
        show c * 1 ^ l.length + 0 * H l 0 1 = 0
        rw [h]
        simp
    · rw [List.any_eq_true] at h
      obtain ⟨b, hb, h⟩ := h
      have b1 := of_divisors hb
      rw [Bool.or_eq_true, beq_iff_eq, beq_iff_eq] at h
      rcases h with h | h
      · exact ⟨_, _, by omega, h⟩
      · exact ⟨_, _, by omega, h⟩
  · rintro ⟨a, b, hb, h⟩
    by_cases h0 : p.getD 0 0 = 0
    · exact .inl h0
    · right
      obtain ⟨g, a', b', hg, rfl, rfl, hb', cop⟩ := lowest a b hb
      have e := H_scale g a' b' p
      rw [← key, h, Int.mul_zero] at e
      have e2 : H p a' b' = 0 := (Int.mul_eq_zero.mp e.symm).resolve_left (Int.pow_ne_zero hg)
      have d1 : a' ∣ p.getD 0 0 := by
        cases p with
        | nil => exact (hp rfl).elim
        | cons c l =>
          show a' ∣ c
          have e3 : c * b' ^ l.length + a' * H l a' b' = 0 := e2
          refine dvd_cop (n := l.length) ⟨-(H l a' b'), ?_⟩ cop
          rw [Int.mul_neg]
          omega
      have d2 : b' ∣ p.getLastD 1 := by
        rw [last_is p hp, H_last] at e2
        refine dvd_cop (n := p.dropLast.length) (b := a') ⟨-(H p.dropLast a' b'), ?_⟩ cop.symm
        rw [Int.mul_neg]
        omega
      refine ⟨a'.natAbs, mem_divisors h0 (Int.natAbs_dvd_natAbs.mpr d1), ?_⟩
      rw [List.any_eq_true]
      refine ⟨b'.natAbs, mem_divisors hl (Int.natAbs_dvd_natAbs.mpr d2), ?_⟩
      rw [Bool.or_eq_true, beq_iff_eq, beq_iff_eq]
      have eb : ((b'.natAbs : Nat) : Int) = b' := by omega
      rw [eb]
      by_cases ha : 0 ≤ a'
      · left
        rw [show ((a'.natAbs : Nat) : Int) = a' by omega, key]
        exact e2
      · right
        rw [show -((a'.natAbs : Nat) : Int) = a' by omega, key]
        exact e2
/-! ### the cubic of a quartic -/
theorem cubic_value (k0 k1 k2 z : Int) : Se04.valueAt [k0, k1, k2, 1] z 1 = k0 + k1 * z + k2 * (z * z) + z * z * z := by
  rw [value_H]
  show k0 * 1 ^ 3 + z * (k1 * 1 ^ 2 + z * (k2 * 1 ^ 1 + z * (1 * 1 ^ 0 + z * 0))) = _
  simp only [Int.one_pow]
  grind
/-- a whole root of such a cubic lies near 0 -/
theorem cubic_near {k0 k1 k2 z : Int} (h0 : k0.natAbs ≤ 6000000000) (h1 : k1.natAbs ≤ 5000000) (h2 : k2.natAbs ≤ 1000) (h : k0 + k1 * z + k2 * (z * z) + z * z * z = 0) : z.natAbs ≤ 5000 := by
  by_cases q : z.natAbs ≤ 5000
  · exact q
  · have p : 5001 ≤ z.natAbs := by omega
    have e : (z * z * z).natAbs = (-(k0 + k1 * z + k2 * (z * z))).natAbs := by congr 1; omega
    have l1 : (-(k0 + k1 * z + k2 * (z * z))).natAbs ≤ k0.natAbs + k1.natAbs * z.natAbs + k2.natAbs * (z.natAbs * z.natAbs) := by
      rw [Int.natAbs_neg]
      refine Nat.le_trans (Int.natAbs_add_le _ _) ?_
      refine Nat.add_le_add (Nat.le_trans (Int.natAbs_add_le _ _) ?_) ?_
      · rw [Int.natAbs_mul]
        exact Nat.le_refl _
      · rw [Int.natAbs_mul, Int.natAbs_mul]
        exact Nat.le_refl _
    rw [← e, Int.natAbs_mul, Int.natAbs_mul] at l1
    generalize z.natAbs = w at p l1
    have m1 : k1.natAbs * w ≤ 5000000 * w := Nat.mul_le_mul_right _ h1
    have m2 : k2.natAbs * (w * w) ≤ 1000 * (w * w) := Nat.mul_le_mul_right _ h2
    have m3 : 5001 * w ≤ w * w := Nat.mul_le_mul_right _ p
    have m4 : 5001 * (w * w) ≤ w * (w * w) := Nat.mul_le_mul_right _ p
    have m5 : w * w * w = w * (w * w) := Nat.mul_assoc _ _ _
    rw [m5] at l1
    generalize w * (w * w) = c at l1 m4
    generalize w * w = s at *
    omega
theorem whole_iff {k0 k1 k2 : Int} (h0 : k0.natAbs ≤ 6000000000) (h1 : k1.natAbs ≤ 5000000) (h2 : k2.natAbs ≤ 1000) : Se04.wholeRoot [k0, k1, k2, 1] = true ↔ ∃ z : Int, k0 + k1 * z + k2 * (z * z) + z * z * z = 0 := by
  unfold Se04.wholeRoot
  rw [List.any_eq_true]
  constructor
  · rintro ⟨i, _, h⟩
    rw [beq_iff_eq, cubic_value] at h
    exact ⟨_, h⟩
  · rintro ⟨z, h⟩
    have n := cubic_near h0 h1 h2 h
    refine ⟨(z + 5000).toNat, List.mem_range.mpr (by omega), ?_⟩
    rw [beq_iff_eq, cubic_value, show (((z + 5000).toNat : Nat) : Int) - 5000 = z by omega]
    exact h
end Rt

set_option linter.all false
/-! The specification's real (Sturm): its rest and chain without their fuel, and the same up to positive factors over whole numbers. -/
namespace St
open Se04 (Poly trim rest chain changes real)
open Sf68 (sgn el)
def step (b a : Poly) : Poly := trim (List.zipWith (fun (x y : Rat) => x - a.getLastD 0 / b.getLastD 1 * y) a (List.replicate (a.length - b.length) 0 ++ b)).dropLast
theorem rest_succ (b : Poly) (f : Nat) (a : Poly) : rest b (f + 1) a = if a.length < b.length ∨ b = [] then a else rest b f (step b a) := rfl
theorem trim_len (l : Poly) : (trim l).length ≤ l.length := by
  unfold trim
  rw [List.length_reverse]
  have := List.Sublist.length_le (List.dropWhile_sublist (fun (c : Rat) => c == 0) (l := l.reverse))
  rw [List.length_reverse] at this
  exact this
theorem step_len {b a : Poly} (h : ¬ (a.length < b.length ∨ b = [])) : (step b a).length < a.length := by
  have hb : 0 < b.length := List.length_pos_iff.mpr fun q => h (.inr q)
  have ha : b.length ≤ a.length := Nat.le_of_not_lt fun q => h (.inl q)
  unfold step
  refine Nat.lt_of_le_of_lt (trim_len _) ?_
  rw [List.length_dropLast, List.length_zipWith, List.length_append, List.length_replicate]
  omega
theorem rest_fuel (b : Poly) : ∀ (f g : Nat) (a : Poly), a.length < f → a.length < g → rest b f a = rest b g a
  | 0, _, _, h, _ => absurd h (Nat.not_lt_zero _)
  | _ + 1, 0, _, _, h => absurd h (Nat.not_lt_zero _)
  | f + 1, g + 1, a, h, k => by
    rw [rest_succ, rest_succ]
    by_cases c : a.length < b.length ∨ b = []
    · rw [if_pos c, if_pos c]
    · rw [if_neg c, if_neg c]
      have := step_len c
      exact rest_fuel b f g _ (by omega) (by omega)
theorem rest_len (b : Poly) (hb : b ≠ []) : ∀ (f : Nat) (a : Poly), a.length < f → (rest b f a).length < b.length
  | 0, _, h => absurd h (Nat.not_lt_zero _)
  | f + 1, a, h => by
    rw [rest_succ]
    by_cases c : a.length < b.length ∨ b = []
    · rw [if_pos c]
      exact c.resolve_right hb
    · rw [if_neg c]
      have := step_len c
      exact rest_len b hb f _ (by omega)
/-- what one leaves by another, without fuel -/
def rem (b a : Poly) : Poly := rest b (a.length + 1) a
theorem rem_lt {b a : Poly} (h : a.length < b.length) : rem b a = a := by
  unfold rem
  rw [rest_succ, if_pos (.inl h)]
theorem rem_step {b a : Poly} (h : ¬ (a.length < b.length ∨ b = [])) : rem b a = rem b (step b a) := by
  have := step_len h
  unfold rem
  rw [rest_succ, if_neg h]
  exact rest_fuel b _ _ _ (by omega) (by omega)
theorem rem_len {b : Poly} (hb : b ≠ []) (a : Poly) : (rem b a).length < b.length := rest_len b hb _ a (Nat.lt_succ_self _)
/-- the chain's next -/
def next (a b : Poly) : Poly := (trim (rem b a)).map fun (c : Rat) => -c
theorem next_len {b : Poly} (hb : b ≠ []) (a : Poly) : (next a b).length < b.length := by
  unfold next
  rw [List.length_map]
  exact Nat.lt_of_le_of_lt (trim_len _) (rem_len hb a)
theorem chain_succ (f : Nat) (a b : Poly) : chain (f + 1) a b = if b = [] then [a] else a :: chain f b (next a b) := rfl
theorem chain_fuel : ∀ (f g : Nat) (a b : Poly), b.length < f → b.length < g → chain f a b = chain g a b
  | 0, _, _, _, h, _ => absurd h (Nat.not_lt_zero _)
  | _ + 1, 0, _, _, _, h => absurd h (Nat.not_lt_zero _)
  | f + 1, g + 1, a, b, h, k => by
    rw [chain_succ, chain_succ]
    by_cases c : b = []
    · rw [if_pos c, if_pos c]
    · rw [if_neg c, if_neg c]
      have := next_len c a
      rw [chain_fuel f g b (next a b) (by omega) (by omega)]
def chn (a b : Poly) : List Poly := chain (b.length + 1) a b
theorem chn_nil (a : Poly) : chn a [] = [a] := rfl
theorem chn_step {a b : Poly} (h : b ≠ []) : chn a b = a :: chn b (next a b) := by
  have := next_len h a
  unfold chn
  rw [chain_succ, if_neg h]
  rw [chain_fuel _ ((next a b).length + 1) b (next a b) (by omega) (Nat.lt_succ_self _)]
/-! ### up to a positive factor, over whole numbers -/
def trimI (l : List Int) : List Int := (l.reverse.dropWhile fun (c : Int) => c == 0).reverse
/-- a is A times a positive fraction -/
def Sim (A : List Int) (a : Poly) : Prop := ∃ c : Rat, 0 < c ∧ a = A.map fun (z : Int) => c * (z : Rat)
theorem Sim.of (A : List Int) : Sim A (el A) := ⟨1, by decide +kernel, by
  unfold el
  apply List.map_congr_left
  intro z _
  rw [Rat.one_mul]⟩
theorem Sim.len {A : List Int} {a : Poly} (h : Sim A a) : a.length = A.length := by
  obtain ⟨c, _, rfl⟩ := h
  rw [List.length_map]
theorem Sim.nil {A : List Int} {a : Poly} (h : Sim A a) : a = [] ↔ A = [] := by
  rw [← List.length_eq_zero_iff, ← List.length_eq_zero_iff, h.len]
theorem mul_zero_iff {c : Rat} (hc : 0 < c) (z : Int) : (c * (z : Rat) == 0) = (z == 0) := by
  rw [Bool.eq_iff_iff, beq_iff_eq, beq_iff_eq]
  constructor
  · intro h
    have : (z : Rat) = 0 := by
      rcases Rat.mul_eq_zero.mp h with q | q
      · rw [q] at hc
        exact absurd hc (by decide +kernel)
      · exact q
    exact Rat.intCast_eq_zero_iff.mp this
  · intro h
    rw [h]
    exact Rat.mul_zero c
theorem dropWhile_map' {c : Rat} (hc : 0 < c) : ∀ A : List Int, (A.map fun (z : Int) => c * (z : Rat)).dropWhile (fun (x : Rat) => x == 0) = (A.dropWhile fun (x : Int) => x == 0).map fun (z : Int) => c * (z : Rat)
  | [] => rfl
  | z :: A => by
    rw [List.map_cons, List.dropWhile_cons, List.dropWhile_cons, mul_zero_iff hc]
    split
    · exact dropWhile_map' hc A
    · rfl
theorem Sim.trim {A : List Int} {a : Poly} (h : Sim A a) : Sim (trimI A) (trim a) := by
  obtain ⟨c, hc, rfl⟩ := h
  refine ⟨c, hc, ?_⟩
  unfold Se04.trim trimI
  rw [← List.map_reverse, dropWhile_map' hc, List.map_reverse]
theorem Sim.neg {A : List Int} {a : Poly} (h : Sim A a) : Sim (A.map fun z => -z) (a.map fun (c : Rat) => -c) := by
  obtain ⟨c, hc, rfl⟩ := h
  refine ⟨c, hc, ?_⟩
  rw [List.map_map, List.map_map]
  apply List.map_congr_left
  intro z _
  show -(c * (z : Rat)) = c * ((-z : Int) : Rat)
  rw [Rat.intCast_neg]
  grind
/-- a number that's positive may be divided out -/
theorem Sim.scale {A A' : List Int} {a : Poly} (m n : Int) (hm : 0 < m) (hn : 0 < n) (e : A.map (fun z => m * z) = A'.map (fun z => n * z)) (h : Sim A a) : Sim A' a := by
  obtain ⟨c, hc, rfl⟩ := h
  have hm' : (0 : Rat) < (m : Rat) := by rw [show (0 : Rat) = ((0 : Int) : Rat) from rfl]; exact Rat.intCast_lt_intCast.mpr hm
  have hn' : (0 : Rat) < (n : Rat) := by rw [show (0 : Rat) = ((0 : Int) : Rat) from rfl]; exact Rat.intCast_lt_intCast.mpr hn
  have hl : A.length = A'.length := by
    have := congrArg List.length e
    rw [List.length_map, List.length_map] at this
    exact this
  refine ⟨c * (n : Rat) / (m : Rat), by rw [Rat.div_def]; exact Rat.mul_pos (Rat.mul_pos hc hn') (Rat.inv_pos.mpr hm'), ?_⟩
  apply List.ext_getElem
  · rw [List.length_map, List.length_map, hl]
  · intro i h1 h2
    rw [List.length_map] at h1 h2
    rw [List.getElem_map, List.getElem_map]
    have e2 : m * A[i] = n * A'[i] := by
      have : (A.map (fun z => m * z))[i]? = (A'.map (fun z => n * z))[i]? := by rw [e]
      rw [List.getElem?_map, List.getElem?_map, List.getElem?_eq_getElem h1, List.getElem?_eq_getElem h2] at this
      exact Option.some.inj this
    have e3 : (m : Rat) * (A[i] : Rat) = (n : Rat) * (A'[i] : Rat) := by
      rw [← Rat.intCast_mul, ← Rat.intCast_mul, e2]
    have hm0 : (m : Rat) ≠ 0 := fun q => by rw [q] at hm'; exact absurd hm' (by decide +kernel)
    generalize (A[i] : Rat) = x at e3
    generalize (A'[i] : Rat) = y at e3
    grind
end St

set_option linter.all false
namespace St
open Se04 (Poly trim rest chain changes real)
open Sf68 (sgn el)
open Cp (sgI sgn_el)
theorem last_map {α β : Type} (f : α → β) (u : α) : ∀ (l : List α), (l.map f).getLastD (f u) = f (l.getLastD u) := by
  intro l
  rw [List.getLastD_eq_getLast?, List.getLastD_eq_getLast?, List.getLast?_map]
  cases l.getLast? <;> rfl
theorem last_ne {α : Type} {u v : α} : ∀ {l : List α}, l ≠ [] → l.getLastD u = l.getLastD v
  | [], h => absurd rfl h
  | a :: l, _ => rfl
theorem Sim.last {A : List Int} {c : Rat} : (A.map fun (z : Int) => c * (z : Rat)).getLastD 0 = c * ((A.getLastD 0 : Int) : Rat) := by
  have e := last_map (fun (z : Int) => c * (z : Rat)) 0 A
  rw [← e]
  congr 1
  exact (Rat.mul_zero c).symm
theorem zip_map (m t : Int) (f : Rat → Rat → Rat) (c e k : Rat) (h : ∀ X Y : Int, f (c * (X : Rat)) (e * (Y : Rat)) = k * ((m * X - t * Y : Int) : Rat)) : ∀ A B : List Int,
    List.zipWith f (A.map fun (z : Int) => c * (z : Rat)) (B.map fun (z : Int) => e * (z : Rat)) = (List.zipWith (fun x y => m * x - t * y) A B).map fun (z : Int) => k * (z : Rat)
  | [], _ => by simp
  | _ :: _, [] => by simp
  | X :: A, Y :: B => by
    rw [List.map_cons, List.map_cons, List.zipWith_cons_cons, List.zipWith_cons_cons, List.map_cons, zip_map m t f c e k h A B, h]
def stepI (m t : Int) (B A : List Int) : List Int := trimI (List.zipWith (fun x y => m * x - t * y) A (List.replicate (A.length - B.length) 0 ++ B)).dropLast
theorem Sim.step {A B : List Int} {a b : Poly} (hA : Sim A a) (hB : Sim B b) (LB : B.getLastD 0 ≠ 0) {m t : Int} (hm : 0 < m) (e : m * A.getLastD 0 = t * B.getLastD 0) : Sim (stepI m t B A) (step b a) := by
  have hne : B ≠ [] := fun q => by rw [q] at LB; exact LB rfl
  obtain ⟨c, hc, rfl⟩ := hA
  obtain ⟨d, hd, rfl⟩ := hB
  have hm' : (0 : Rat) < (m : Rat) := by rw [show (0 : Rat) = ((0 : Int) : Rat) from rfl]; exact Rat.intCast_lt_intCast.mpr hm
  have hm0 : (m : Rat) ≠ 0 := fun q => by rw [q] at hm'; exact absurd hm' (by decide +kernel)
  have hd0 : d ≠ 0 := fun q => by rw [q] at hd; exact absurd hd (by decide +kernel)
  have hl0 : ((B.getLastD 0 : Int) : Rat) ≠ 0 := fun q => LB (Rat.intCast_eq_zero_iff.mp q)
  have e' : (m : Rat) * ((A.getLastD 0 : Int) : Rat) = (t : Rat) * ((B.getLastD 0 : Int) : Rat) := by rw [← Rat.intCast_mul, ← Rat.intCast_mul, e]
  unfold St.step stepI
  refine Sim.trim ⟨c / (m : Rat), by rw [Rat.div_def]; exact Rat.mul_pos hc (Rat.inv_pos.mpr hm'), ?_⟩
  have hb1 : (B.map fun (z : Int) => d * (z : Rat)).getLastD 1 = d * ((B.getLastD 0 : Int) : Rat) := by
    rw [last_ne (u := (1 : Rat)) (v := 0) (by simpa using hne), Sim.last]
  have hr : List.replicate ((A.map fun (z : Int) => c * (z : Rat)).length - (B.map fun (z : Int) => d * (z : Rat)).length) (0 : Rat) ++ (B.map fun (z : Int) => d * (z : Rat)) = (List.replicate (A.length - B.length) (0 : Int) ++ B).map fun (z : Int) => d * (z : Rat) := by
    rw [List.length_map, List.length_map, List.map_append, List.map_replicate]
    congr 2
    exact (Rat.mul_zero d).symm
  rw [Sim.last, hb1, hr, zip_map m t _ c d (c / (m : Rat)), List.map_dropLast]
  intro X Y
  rw [show ((m * X - t * Y : Int) : Rat) = (m : Rat) * (X : Rat) - (t : Rat) * (Y : Rat) by rw [Rat.intCast_sub, Rat.intCast_mul, Rat.intCast_mul]]
  generalize ((A.getLastD 0 : Int) : Rat) = la at e'
  generalize ((B.getLastD 0 : Int) : Rat) = lb at e' hl0
  generalize (X : Rat) = x
  generalize (Y : Rat) = y
  grind
theorem trimI_self {A : List Int} (h : A.getLastD 0 ≠ 0) : trimI A = A := by
  unfold trimI
  rw [List.getLastD_eq_getLast?, List.getLast?_eq_head?_reverse] at h
  have e : A = A.reverse.reverse := (List.reverse_reverse A).symm
  cases hr : A.reverse with
  | nil =>
    rw [hr] at h
    exact absurd rfl h
  | cons x l =>
    rw [hr] at h
    rw [List.dropWhile_cons, if_neg, ← hr, List.reverse_reverse]
    simpa using h
/-- a trimmed row is empty or its last isn't 0 -/
theorem trimI_last (A : List Int) : trimI A = [] ∨ (trimI A).getLastD 0 ≠ 0 := by
  unfold trimI
  rw [List.getLastD_eq_getLast?, List.getLast?_reverse]
  cases h : (A.reverse.dropWhile fun (c : Int) => c == 0) with
  | nil => exact .inl rfl
  | cons x l =>
    refine .inr ?_
    have := List.head?_dropWhile_not (fun (c : Int) => c == 0) A.reverse
    rw [h] at this
    simpa using this
/-! ### the chain's signs -/
inductive Sims : List (List Int) → List Poly → Prop
  | nil : Sims [] []
  | cons {A : List Int} {a : Poly} {L : List (List Int)} {l : List Poly} : Sim A a → Sims L l → Sims (A :: L) (a :: l)
def sgP (left : Bool) (A : List Int) : Int := if left = true ∧ A.length % 2 = 0 then -(sgI (A.getLastD 0)) else sgI (A.getLastD 0)
theorem sgn_pos {c : Rat} (hc : 0 < c) (x : Rat) : sgn (c * x) = sgn x := by
  unfold sgn
  have h1 : (0 < c * x) = (0 < x) := propext (Rat.mul_pos_iff_of_pos_left hc)
  have h2 : (c * x < 0) = (x < 0) := by
    have e : ∀ y : Rat, (y < 0) = (0 < -y) := fun y => by
      apply propext
      constructor
      · intro h; grind
      · intro h; grind
    rw [e, e, show -(c * x) = c * -x by grind]
    exact propext (Rat.mul_pos_iff_of_pos_left hc)
  simp only [h1, h2]
theorem Sim.sign {A : List Int} {a : Poly} (h : Sim A a) (left : Bool) : (if left = true ∧ a.length % 2 = 0 then -(sgn (a.getLastD 0)) else sgn (a.getLastD 0)) = sgP left A := by
  have hl := h.len
  obtain ⟨c, hc, rfl⟩ := h
  unfold sgP
  rw [hl, Sim.last, sgn_pos hc, sgn_el]
def signsI (L : List (List Int)) (left : Bool) : List Int := (L.map (sgP left)).filter fun (z : Int) => z != 0
theorem Sims.signs {L : List (List Int)} {l : List Poly} (h : Sims L l) (left : Bool) :
    (l.map fun (q : Poly) => if left = true ∧ q.length % 2 = 0 then -(sgn (q.getLastD 0)) else sgn (q.getLastD 0)).filter (fun (z : Int) => z != 0) = signsI L left := by
  unfold signsI
  congr 1
  induction h with
  | nil => rfl
  | cons h _ ih => rw [List.map_cons, List.map_cons, ih, h.sign]
def derI (p : List Int) : List Int := (p.drop 1).mapIdx fun (i : Nat) (c : Int) => ((i + 1 : Nat) : Int) * c
theorem der_el (p : List Int) : ((el p).drop 1).mapIdx (fun (i : Nat) (c : Rat) => ((i + 1 : Nat) : Rat) * c) = el (derI p) := by
  unfold derI el
  rw [← List.map_drop]
  apply List.ext_getElem?
  intro i
  rw [List.getElem?_mapIdx, List.getElem?_map, List.getElem?_map, List.getElem?_mapIdx, Option.map_map, Option.map_map]
  congr 1
  funext z
  show ((i + 1 : Nat) : Rat) * (z : Rat) = ((((i + 1 : Nat) : Int) * z : Int) : Rat)
  rw [Rat.intCast_mul]
  rfl
/-- **the specification's real, by any chain of whole numbers that is its own up to positive factors** -/
theorem real_by {p : List Int} (hp : p.getLastD 0 ≠ 0) {L : List (List Int)} (h : Sims L (chn (el p) (trim (el (derI p))))) : real p = decide (changes (signsI L false) < changes (signsI L true)) := by
  have ht : trim (el p) = el p := by
    obtain ⟨c, hc, e⟩ := (Sim.of p).trim
    have e2 := (Sim.of p).trim.len
    rw [trimI_self hp] at e e2
    -- trim takes nothing away
    have : (trim (el p)).length = (el p).length := by rw [e2, Cp.len_el]
    unfold Se04.trim at this ⊢
    have s := List.dropWhile_suffix (fun (c : Rat) => c == 0) (l := (el p).reverse)
    rw [List.length_reverse] at this
    have e3 := s.eq_of_length (by rw [this, List.length_reverse])
    rw [e3, List.reverse_reverse]
  unfold Se04.real
  dsimp only
  rw [ht, der_el]
  have hl : (trim (el (derI p))).length < (el p).length + 1 := by
    refine Nat.lt_of_le_of_lt (trim_len _) ?_
    rw [Cp.len_el, Cp.len_el]
    unfold derI
    rw [List.length_mapIdx, List.length_drop]
    omega
  rw [chain_fuel _ _ _ _ hl (Nat.lt_succ_self _)]
  rw [show chain ((trim (el (derI p))).length + 1) (el p) (trim (el (derI p))) = chn (el p) (trim (el (derI p))) from rfl]
  apply decide_eq_decide.mpr
  have e1 := h.signs false
  have e2 := h.signs true
  show changes _ < changes _ ↔ _
  rw [e1, e2]
/-! ### chains over whole numbers: each next by steps, with a positive factor at every step -/
/-- R is what A leaves by B, up to a positive factor -/
inductive Rem (B : List Int) : List Int → List Int → Prop
  | done {A : List Int} : A.length < B.length → Rem B A A
  | go {A R : List Int} (m t : Int) : B.length ≤ A.length → 0 < m → m * A.getLastD 0 = t * B.getLastD 0 → Rem B (stepI m t B A) R → Rem B A R
theorem Rem.sim {B A R : List Int} (LB : B.getLastD 0 ≠ 0) (h : Rem B A R) : ∀ {a b : Poly}, Sim A a → Sim B b → Sim R (rem b a) := by
  have hne : B ≠ [] := fun q => by rw [q] at LB; exact LB rfl
  induction h with
  | done hl =>
    intro a b hA hB
    rw [rem_lt (by rw [hA.len, hB.len]; exact hl)]
    exact hA
  | go m t hl hm e _ ih =>
    intro a b hA hB
    rw [rem_step (by
      rintro (q | q)
      · rw [hA.len, hB.len] at q
        omega
      · exact hne (hB.nil.mp q))]
    exact ih (hA.step hB LB hm e) hB
/-- L is the chain of A and B, up to positive factors -/
inductive Chn : List Int → List Int → List (List Int) → Prop
  | last {A : List Int} : Chn A [] [A]
  | more {A B R C : List Int} {L : List (List Int)} (m n : Int) : B.getLastD 0 ≠ 0 → Rem B A R → 0 < m → 0 < n → ((trimI R).map fun z => -z).map (fun z => m * z) = C.map (fun z => n * z) → Chn B C L → Chn A B (A :: L)
theorem Chn.sims {A B : List Int} {L : List (List Int)} (h : Chn A B L) : ∀ {a b : Poly}, Sim A a → Sim B b → Sims L (chn a b) := by
  induction h with
  | last =>
    intro a b hA hB
    rw [hB.nil.mpr rfl, chn_nil]
    exact .cons hA .nil
  | more m n LB hR hm hn e _ ih =>
    intro a b hA hB
    have hne : b ≠ [] := fun q => by
      rw [hB.nil.mp q] at LB
      exact LB rfl
    rw [chn_step hne]
    exact .cons hA (ih hB (Sim.scale m n hm hn e (hR.sim LB hA hB).trim.neg))
/-- **real, by a chain over whole numbers** -/
theorem real_chn {p B : List Int} (hp : p.getLastD 0 ≠ 0) {L : List (List Int)} (hB : B = trimI (derI p)) (h : Chn p B L) : real p = decide (changes (signsI L false) < changes (signsI L true)) := by
  subst hB
  exact real_by hp (h.sims (Sim.of p) (Sim.of (derI p)).trim)
end St
#print axioms St.real_chn

set_option linter.all false
/-! The specification's real of a quartic, by the signs of whole numbers. -/
namespace St
open Se04 (Poly trim rest chain changes real)
open Sf68 (sgn el)
open Cp (sgI)
theorem trimI_zero (l : List Int) : trimI (l ++ [0]) = trimI l := by
  unfold trimI
  rw [List.reverse_append]
  rfl
theorem trimI_idem (l : List Int) : trimI (trimI l) = trimI l := by
  rcases trimI_last l with h | h
  · rw [h]; rfl
  · exact trimI_self h
theorem trimI_scale {m : Int} (hm : m ≠ 0) (A : List Int) : trimI (A.map fun z => m * z) = (trimI A).map fun z => m * z := by
  unfold trimI
  rw [← List.map_reverse]
  have key : ∀ B : List Int, (B.map fun z => m * z).dropWhile (fun c => c == 0) = (B.dropWhile fun c => c == 0).map fun z => m * z := by
    intro B
    induction B with
    | nil => rfl
    | cons z B ih =>
      rw [List.map_cons, List.dropWhile_cons, List.dropWhile_cons]
      have e : (m * z == 0) = (z == 0) := by
        rw [Bool.eq_iff_iff, beq_iff_eq, beq_iff_eq]
        constructor
        · intro h
          exact (Int.mul_eq_zero.mp h).resolve_left hm
        · intro h
          rw [h, Int.mul_zero]
      rw [e]
      split
      · exact ih
      · rfl
  rw [key, List.map_reverse]
theorem trimI_neg (A : List Int) : trimI (A.map fun z => -z) = (trimI A).map fun z => -z := by
  have e := trimI_scale (m := -1) (by decide) A
  have f : (fun z : Int => -1 * z) = fun z => -z := by funext z; omega
  rw [f] at e
  exact e
theorem sq_pos {x : Int} (h : x ≠ 0) : 0 < x * x := by
  rcases Int.lt_or_gt_of_ne h with q | q
  · exact Int.mul_pos_of_neg_of_neg q q
  · exact Int.mul_pos q q
theorem der4 (a b c d e : Int) : derI [e, d, c, b, a] = [d, 2 * c, 3 * b, 4 * a] := by
  unfold derI
  simp [List.mapIdx_cons]
/-- the second: what is left, up to a positive factor, the other way round -/
theorem rem1 {a b c d e : Int} (ha : a ≠ 0) : ∃ R : List Int, ∃ m n : Int, 0 < m ∧ 0 < n ∧ Rem [d, 2 * c, 3 * b, 4 * a] [e, d, c, b, a] R ∧
    ((trimI R).map fun z => -z).map (fun z => m * z) = (trimI [a * (b * d - 16 * a * e), a * (2 * (b * c - 6 * a * d)), a * (3 * b * b - 8 * a * c)]).map fun z => n * z := by
  have s1 : stepI 4 1 [d, 2 * c, 3 * b, 4 * a] [e, d, c, b, a] = trimI [4 * e, 3 * d, 2 * c, b] := by
    show trimI [4 * e - 1 * 0, 4 * d - 1 * d, 4 * c - 1 * (2 * c), 4 * b - 1 * (3 * b)] = _
    congr 1
    simp only [List.cons.injEq, and_true]
    refine ⟨by omega, by omega, by omega, by omega⟩
  by_cases hb : b = 0
  · subst hb
    refine ⟨trimI [4 * e, 3 * d, 2 * c], 4 * (a * a), 1, by have := sq_pos ha; omega, by decide, ?_, ?_⟩
    · refine .go 4 1 (by simp) (by decide) (by show 4 * a = 1 * (4 * a); omega) ?_
      rw [s1, show [4 * e, 3 * d, 2 * c, (0 : Int)] = [4 * e, 3 * d, 2 * c] ++ [0] from rfl, trimI_zero]
      refine .done ?_
      have := List.Sublist.length_le (List.dropWhile_sublist (fun (c : Int) => c == 0) (l := ([4 * e, 3 * d, 2 * c] : List Int).reverse))
      unfold trimI
      rw [List.length_reverse]
      show _ < 4
      have e3 : ([4 * e, 3 * d, 2 * c] : List Int).reverse.length = 3 := rfl
      omega
    · rw [trimI_idem, ← trimI_neg, ← trimI_scale (by have := sq_pos ha; omega), ← trimI_scale (by decide)]
      congr 1
      simp only [List.map_cons, List.map_nil, List.cons.injEq, and_true]
      refine ⟨by grind, by grind, by grind⟩
  · refine ⟨trimI [-(a * (b * d - 16 * a * e)), -(a * (2 * (b * c - 6 * a * d))), -(a * (3 * b * b - 8 * a * c))], 1, 1, by decide, by decide, ?_, ?_⟩
    · refine .go 4 1 (by simp) (by decide) (by show 4 * a = 1 * (4 * a); omega) ?_
      rw [s1, trimI_self (by exact hb)]
      refine .go (4 * (a * a)) (a * b) (by simp) (by have := sq_pos ha; omega) (by show 4 * (a * a) * b = a * b * (4 * a); grind) ?_
      have s2 : stepI (4 * (a * a)) (a * b) [d, 2 * c, 3 * b, 4 * a] [4 * e, 3 * d, 2 * c, b] = trimI [-(a * (b * d - 16 * a * e)), -(a * (2 * (b * c - 6 * a * d))), -(a * (3 * b * b - 8 * a * c))] := by
        show trimI [4 * (a * a) * (4 * e) - a * b * d, 4 * (a * a) * (3 * d) - a * b * (2 * c), 4 * (a * a) * (2 * c) - a * b * (3 * b)] = _
        congr 1
        simp only [List.cons.injEq, and_true]
        refine ⟨by grind, by grind, by grind⟩
      rw [s2]
      refine .done ?_
      have := List.Sublist.length_le (List.dropWhile_sublist (fun (c : Int) => c == 0) (l := ([-(a * (b * d - 16 * a * e)), -(a * (2 * (b * c - 6 * a * d))), -(a * (3 * b * b - 8 * a * c))] : List Int).reverse))
      unfold trimI
      rw [List.length_reverse]
      show _ < 4
      have e3 : ([-(a * (b * d - 16 * a * e)), -(a * (2 * (b * c - 6 * a * d))), -(a * (3 * b * b - 8 * a * c))] : List Int).reverse.length = 3 := rfl
      omega
    · rw [trimI_idem, ← trimI_neg, ← trimI_scale (by decide), ← trimI_scale (by decide)]
      congr 1
      simp only [List.map_cons, List.map_nil, List.cons.injEq, and_true]
      refine ⟨by omega, by omega, by omega⟩
theorem trimI_le (l : List Int) : (trimI l).length ≤ l.length := by
  have := List.Sublist.length_le (List.dropWhile_sublist (fun (c : Int) => c == 0) (l := l.reverse))
  unfold trimI
  rw [List.length_reverse]
  rw [List.length_reverse] at this
  exact this
/-- the third, where the second has three parts -/
theorem rem2 {a b c d r q s : Int} (ha : a ≠ 0) (hs : s ≠ 0) : ∃ R : List Int, ∃ m n : Int, 0 < m ∧ 0 < n ∧ Rem [a * r, a * q, a * s] [d, 2 * c, 3 * b, 4 * a] R ∧
    ((trimI R).map fun z => -z).map (fun z => m * z) = (trimI [-(s * s * d - (3 * b * s - 4 * a * q) * r), -(2 * c * (s * s) - 4 * a * r * s - (3 * b * s - 4 * a * q) * q)]).map fun z => n * z := by
  have hss := sq_pos hs
  have haa := sq_pos ha
  have s1 : stepI (s * s) (4 * s) [a * r, a * q, a * s] [d, 2 * c, 3 * b, 4 * a] = trimI [s * s * d, 2 * c * (s * s) - 4 * a * r * s, s * (3 * b * s - 4 * a * q)] := by
    show trimI [s * s * d - 4 * s * 0, s * s * (2 * c) - 4 * s * (a * r), s * s * (3 * b) - 4 * s * (a * q)] = _
    congr 1
    simp only [List.cons.injEq, and_true]
    refine ⟨by grind, by grind, by grind⟩
  have l1 : s * s * (4 * a) = 4 * s * (a * s) := by grind
  generalize hk : 3 * b * s - 4 * a * q = k at s1 ⊢
  by_cases h0 : k = 0
  · subst h0
    refine ⟨trimI [s * s * d, 2 * c * (s * s) - 4 * a * r * s], 1, 1, by decide, by decide, ?_, ?_⟩
    · refine .go (s * s) (4 * s) (by simp) hss l1 ?_
      rw [s1, Int.mul_zero, show [s * s * d, 2 * c * (s * s) - 4 * a * r * s, (0 : Int)] = [s * s * d, 2 * c * (s * s) - 4 * a * r * s] ++ [0] from rfl, trimI_zero]
      refine .done (Nat.lt_of_le_of_lt (trimI_le _) (by simp))
    · rw [trimI_idem, ← trimI_neg, ← trimI_scale (by decide), ← trimI_scale (by decide)]
      congr 1
      simp only [List.map_cons, List.map_nil, List.cons.injEq, and_true]
      refine ⟨by grind, by grind⟩
  · refine ⟨trimI [a * a * (s * s * d - k * r), a * a * (2 * c * (s * s) - 4 * a * r * s - k * q)], 1, a * a, by decide, haa, ?_, ?_⟩
    · refine .go (s * s) (4 * s) (by simp) hss l1 ?_
      rw [s1, trimI_self (by show s * k ≠ 0; exact Int.mul_ne_zero hs h0)]
      refine .go (a * a) (a * k) (by simp) haa (by show a * a * (s * k) = a * k * (a * s); grind) ?_
      have s2 : stepI (a * a) (a * k) [a * r, a * q, a * s] [s * s * d, 2 * c * (s * s) - 4 * a * r * s, s * k] = trimI [a * a * (s * s * d - k * r), a * a * (2 * c * (s * s) - 4 * a * r * s - k * q)] := by
        show trimI [a * a * (s * s * d) - a * k * (a * r), a * a * (2 * c * (s * s) - 4 * a * r * s) - a * k * (a * q)] = _
        congr 1
        simp only [List.cons.injEq, and_true]
        refine ⟨by grind, by grind⟩
      rw [s2]
      exact .done (Nat.lt_of_le_of_lt (trimI_le _) (by show 2 < 3; decide))
    · rw [trimI_idem, ← trimI_neg, ← trimI_scale (by decide), ← trimI_scale (by omega)]
      congr 1
      simp only [List.map_cons, List.map_nil, List.cons.injEq, and_true]
      refine ⟨by grind, by grind⟩
/-- the fourth, where the third has two parts -/
theorem rem3 {a r q s v u : Int} (hs : s ≠ 0) (ha : a ≠ 0) (hu : u ≠ 0) : ∃ R : List Int, ∃ m n : Int, 0 < m ∧ 0 < n ∧ Rem [-v, -u] [a * r, a * q, a * s] R ∧
    ((trimI R).map fun z => -z).map (fun z => m * z) = (trimI [-(a * (u * u * r - u * q * v + s * v * v))]).map fun z => n * z := by
  have huu := sq_pos hu
  have s1 : stepI (u * u) (-(a * s * u)) [-v, -u] [a * r, a * q, a * s] = trimI [a * (u * u * r), a * u * (u * q - s * v)] := by
    show trimI [u * u * (a * r) - -(a * s * u) * 0, u * u * (a * q) - -(a * s * u) * -v] = _
    congr 1
    simp only [List.cons.injEq, and_true]
    refine ⟨by grind, by grind⟩
  have l1 : u * u * (a * s) = -(a * s * u) * -u := by grind
  generalize hk : u * q - s * v = k at s1
  by_cases h0 : k = 0
  · subst h0
    refine ⟨trimI [a * (u * u * r)], 1, 1, by decide, by decide, ?_, ?_⟩
    · refine .go (u * u) (-(a * s * u)) (by simp) huu l1 ?_
      rw [s1, Int.mul_zero, show [a * (u * u * r), (0 : Int)] = [a * (u * u * r)] ++ [0] from rfl, trimI_zero]
      refine .done (Nat.lt_of_le_of_lt (trimI_le _) (by simp))
    · rw [trimI_idem, ← trimI_neg, ← trimI_scale (by decide), ← trimI_scale (by decide)]
      congr 1
      simp only [List.map_cons, List.map_nil, List.cons.injEq, and_true]
      grind
  · refine ⟨trimI [a * (u * u * r - u * q * v + s * v * v)], 1, 1, by decide, by decide, ?_, ?_⟩
    · refine .go (u * u) (-(a * s * u)) (by simp) huu l1 ?_
      rw [s1, trimI_self (by show a * u * k ≠ 0; exact Int.mul_ne_zero (Int.mul_ne_zero ha hu) h0)]
      refine .go 1 (-(a * k)) (by simp) (by decide) (by show 1 * (a * u * k) = -(a * k) * -u; grind) ?_
      have s2 : stepI 1 (-(a * k)) [-v, -u] [a * (u * u * r), a * u * k] = trimI [a * (u * u * r - u * q * v + s * v * v)] := by
        show trimI [1 * (a * (u * u * r)) - -(a * k) * -v] = _
        congr 1
        simp only [List.cons.injEq, and_true]
        grind
      rw [s2]
      exact .done (Nat.lt_of_le_of_lt (trimI_le _) (by show 1 < 2; decide))
    · rw [trimI_idem, ← trimI_neg, ← trimI_scale (by decide), ← trimI_scale (by decide)]
      congr 1
/-- a number by itself leaves nothing -/
theorem rem_const {x : Int} (hx : x ≠ 0) : ∀ (n : Nat) (A : List Int), A.length ≤ n → Rem [x] A []
  | 0, A, h => by
    have e : A = [] := List.length_eq_zero_iff.mp (by omega)
    subst e
    exact .done (by simp)
  | n + 1, A, h => by
    by_cases e : A = []
    · subst e
      exact .done (by simp)
    · have l : 1 ≤ A.length := List.length_pos_iff.mpr e
      refine .go (x * x) (A.getLastD 0 * x) l (sq_pos hx) (by show x * x * A.getLastD 0 = A.getLastD 0 * x * x; grind) (rem_const hx n _ ?_)
      unfold stepI
      refine Nat.le_trans (trimI_le _) ?_
      rw [List.length_dropLast, List.length_zipWith, List.length_append, List.length_replicate, List.length_singleton]
      omega
theorem chn_const {A : List Int} {x : Int} (hx : x ≠ 0) : Chn A [x] [A, [x]] := .more 1 1 hx (rem_const hx _ A (Nat.le_refl _)) (by decide) (by decide) rfl .last
end St

set_option linter.all false
namespace St
open Se04 (Poly trim rest chain changes real)
open Sf68 (sgn el)
open Cp (sgI)
/-! ### by a divisor with two parts: the value at its root -/
def ev : List Int → Rat → Rat
  | [], _ => 0
  | a :: l, x => (a : Rat) + x * ev l x
theorem ev_app (x : Rat) : ∀ (l k : List Int), ev (l ++ k) x = ev l x + x ^ l.length * ev k x
  | [], k => by
    show ev k x = 0 + x ^ 0 * ev k x
    rw [Rat.pow_zero]
    grind
  | a :: l, k => by
    show (a : Rat) + x * ev (l ++ k) x = (a : Rat) + x * ev l x + x ^ (l.length + 1) * ev k x
    rw [ev_app x l k, Rat.pow_succ]
    grind
theorem ev_map (x : Rat) (m : Int) : ∀ l : List Int, ev (l.map fun z => m * z) x = (m : Rat) * ev l x
  | [] => by
    show (0 : Rat) = (m : Rat) * 0
    grind
  | a :: l => by
    show ((m * a : Int) : Rat) + x * ev (l.map fun z => m * z) x = (m : Rat) * ((a : Rat) + x * ev l x)
    rw [ev_map x m l, Rat.intCast_mul]
    grind
theorem ev_zero (x : Rat) (l : List Int) : ev (l ++ [0]) x = ev l x := by
  rw [ev_app]
  show ev l x + x ^ l.length * (((0 : Int) : Rat) + x * 0) = ev l x
  rw [show ((0 : Int) : Rat) = 0 from rfl]
  grind
theorem trimI_snoc (l : List Int) (z : Int) : trimI (l ++ [z]) = if z = 0 then trimI l else l ++ [z] := by
  by_cases h : z = 0
  · rw [if_pos h, h, trimI_zero]
  · rw [if_neg h]
    refine trimI_self ?_
    rw [List.getLastD_eq_getLast?, List.getLast?_append]
    exact h
theorem snoc_of {l : List Int} (h : l ≠ []) : ∃ k z, l = k ++ [z] := ⟨l.dropLast, l.getLast h, (List.dropLast_concat_getLast h).symm⟩
theorem ev_trim (x : Rat) : ∀ (n : Nat) (l : List Int), l.length ≤ n → ev (trimI l) x = ev l x
  | 0, l, h => by
    have e : l = [] := List.length_eq_zero_iff.mp (by omega)
    subst e
    rfl
  | n + 1, l, h => by
    by_cases e : l = []
    · subst e
      rfl
    · obtain ⟨k, z, rfl⟩ := snoc_of e
      rw [trimI_snoc]
      by_cases hz : z = 0
      · rw [if_pos hz, hz, ev_zero]
        refine ev_trim x n k ?_
        rw [List.length_append, List.length_singleton] at h
        omega
      · rw [if_neg hz]
theorem zip_rep (m t : Int) : ∀ (l k b : List Int), k.length = b.length → List.zipWith (fun x y => m * x - t * y) (l ++ k) (List.replicate l.length 0 ++ b) = l.map (fun z => m * z) ++ List.zipWith (fun x y => m * x - t * y) k b
  | [], k, b, h => rfl
  | a :: l, k, b, h => by
    show (m * a - t * 0) :: List.zipWith (fun x y => m * x - t * y) (l ++ k) (List.replicate l.length 0 ++ b) = (m * a) :: (l.map (fun z => m * z) ++ List.zipWith (fun x y => m * x - t * y) k b)
    rw [zip_rep m t l k b h]
    congr 1
    omega
theorem rem_lin {x y : Int} (hx : x ≠ 0) : ∀ (n : Nat) (A : List Int), A.length ≤ n → (A = [] ∨ A.getLastD 0 ≠ 0) → ∃ z : Int, ∃ c : Rat, 0 < c ∧ Rem [y, x] A (trimI [z]) ∧ (z : Rat) = c * ev A (-(y : Rat) / (x : Rat))
  | 0, A, h, _ => by
    have e : A = [] := List.length_eq_zero_iff.mp (by omega)
    subst e
    exact ⟨0, 1, by decide +kernel, .done (by simp), (by show ((0 : Int) : Rat) = 1 * 0; decide +kernel)⟩
  | n + 1, A, h, hl => by
    have hx' : (x : Rat) ≠ 0 := fun q => hx (Rat.intCast_eq_zero_iff.mp q)
    by_cases e : A = []
    · subst e
      exact ⟨0, 1, by decide +kernel, .done (by simp), (by show ((0 : Int) : Rat) = 1 * 0; decide +kernel)⟩
    · obtain ⟨k, z, rfl⟩ := snoc_of e
      have hz : z ≠ 0 := by
        have := hl.resolve_left e
        rw [List.getLastD_eq_getLast?, List.getLast?_append] at this
        exact this
      by_cases e2 : k = []
      · subst e2
        refine ⟨z, 1, by decide +kernel, ?_, ?_⟩
        · rw [trimI_self (by exact hz)]
          exact .done (by simp)
        · show (z : Rat) = 1 * ((z : Rat) + _ * 0)
          grind
      · obtain ⟨l, w, rfl⟩ := snoc_of e2
        have ea : l ++ [w] ++ [z] = l ++ [w, z] := by rw [List.append_assoc]; rfl
        rw [ea] at h ⊢
        have hlen : (l ++ [w, z]).length = l.length + 2 := by rw [List.length_append]; rfl
        have hs : stepI (x * x) (z * x) [y, x] (l ++ [w, z]) = trimI (l.map (fun a => x * x * a) ++ [x * x * w - z * x * y]) := by
          unfold stepI
          rw [show (l ++ [w, z]).length - ([y, x] : List Int).length = l.length by rw [hlen]; rfl, zip_rep _ _ l [w, z] [y, x] rfl]
          congr 1
          show (l.map (fun a => x * x * a) ++ [x * x * w - z * x * y, x * x * z - z * x * x]).dropLast = _
          rw [List.dropLast_append_of_ne_nil (by simp)]
          rfl
        have hlen2 : (trimI (l.map (fun a => x * x * a) ++ [x * x * w - z * x * y])).length ≤ n := by
          refine Nat.le_trans (trimI_le _) ?_
          rw [List.length_append, List.length_map, List.length_singleton]
          omega
        obtain ⟨v, c, hc, hr, hv⟩ := rem_lin (y := y) hx n _ hlen2 (trimI_last _)
        refine ⟨v, c * ((x : Rat) * (x : Rat)), ?_, ?_, ?_⟩
        · refine Rat.mul_pos hc ?_
          rw [← Rat.intCast_mul, show (0 : Rat) = ((0 : Int) : Rat) from rfl]
          exact Rat.intCast_lt_intCast.mpr (sq_pos hx)
        · refine .go (x * x) (z * x) (by rw [hlen]; show 2 ≤ l.length + 2; omega) (sq_pos hx) ?_ ?_
          · have el : (l ++ [w, z]).getLastD 0 = z := by
              rw [List.getLastD_eq_getLast?, List.getLast?_append]
              rfl
            rw [el]
            show x * x * z = z * x * x
            grind
          · rw [hs]
            exact hr
        · rw [hv, ev_trim _ _ _ (Nat.le_refl _), ev_app, ev_app, ev_map, List.length_map]
          show c * (((x * x : Int) : Rat) * ev l _ + _ ^ l.length * (((x * x * w - z * x * y : Int) : Rat) + _ * 0)) = c * ((x : Rat) * (x : Rat)) * (ev l _ + _ ^ l.length * ((w : Rat) + _ * ((z : Rat) + _ * 0)))
          rw [Rat.intCast_sub, Rat.intCast_mul, Rat.intCast_mul, Rat.intCast_mul, Rat.intCast_mul, Rat.intCast_mul]
          generalize ((-(y : Rat) / (x : Rat)) ^ l.length) = g
          generalize ev l (-(y : Rat) / (x : Rat)) = f
          generalize (w : Rat) = w'
          generalize (z : Rat) = z'
          generalize (y : Rat) = y'
          generalize (x : Rat) = x' at hx' ⊢
          grind
/-! ### the signs of a quartic's chain -/
theorem sgI_of_pos {x : Int} (h : 0 < x) : sgI x = 1 := by unfold sgI; rw [if_pos h]
theorem sgI_of_neg {x : Int} (h : x < 0) : sgI x = -1 := by unfold sgI; rw [if_neg (by omega), if_pos h]
theorem sgI_mul (x y : Int) : sgI (x * y) = sgI x * sgI y := by
  rcases Int.lt_trichotomy x 0 with hx | hx | hx
  · rcases Int.lt_trichotomy y 0 with hy | hy | hy
    · rw [sgI_of_pos (Int.mul_pos_of_neg_of_neg hx hy), sgI_of_neg hx, sgI_of_neg hy]; rfl
    · subst hy; rw [Int.mul_zero]; show (0 : Int) = sgI x * 0; omega
    · rw [sgI_of_neg (Int.mul_neg_of_neg_of_pos hx hy), sgI_of_neg hx, sgI_of_pos hy]; rfl
  · subst hx; rw [Int.zero_mul]; show (0 : Int) = 0 * sgI y; omega
  · rcases Int.lt_trichotomy y 0 with hy | hy | hy
    · rw [sgI_of_neg (Int.mul_neg_of_pos_of_neg hx hy), sgI_of_pos hx, sgI_of_neg hy]; rfl
    · subst hy; rw [Int.mul_zero]; show (0 : Int) = sgI x * 0; omega
    · rw [sgI_of_pos (Int.mul_pos hx hy), sgI_of_pos hx, sgI_of_pos hy]; rfl
theorem sgI_neg (x : Int) : sgI (-x) = -sgI x := by
  unfold sgI
  split <;> split <;> (try split) <;> (try split) <;> omega
theorem sgI_four (x : Int) : sgI (4 * x) = sgI x := by rw [sgI_mul]; show 1 * sgI x = sgI x; omega
theorem sgI_zero {x : Int} : sgI x = 0 ↔ x = 0 := by unfold sgI; split <;> (try split) <;> omega
/-- the signs of the chain of a quartic, far on the right (f is 1) or on the left (f is -1) -/
def sg4 (a b c d e f : Int) : List Int :=
  let s := 3 * b * b - 8 * a * c
  let q := 2 * (b * c - 6 * a * d)
  let r := b * d - 16 * a * e
  let k := 3 * b * s - 4 * a * q
  let v := s * s * d - k * r
  let u := 2 * c * (s * s) - 4 * a * r * s - k * q
  let w := u * u * r - u * q * v + s * v * v
  let h := d * q * q * q - 2 * c * r * q * q + 3 * b * r * r * q - 4 * a * r * r * r
  if s ≠ 0 then
    if u ≠ 0 then (if w ≠ 0 then [sgI a, f * sgI a, sgI a * sgI s, -(f * sgI u), -(sgI a * sgI w)] else [sgI a, f * sgI a, sgI a * sgI s, -(f * sgI u)])
    else if v ≠ 0 then [sgI a, f * sgI a, sgI a * sgI s, -sgI v] else [sgI a, f * sgI a, sgI a * sgI s]
  else if q ≠ 0 then (if h ≠ 0 then [sgI a, f * sgI a, f * (sgI a * sgI q), -(sgI q * sgI h)] else [sgI a, f * sgI a, f * (sgI a * sgI q)])
  else if r ≠ 0 then [sgI a, f * sgI a, sgI a * sgI r] else [sgI a, f * sgI a]
/-- a chain and its signs on either side -/
structure Told (p : List Int) (L R : List Int) : Prop where
  is : ∃ C, Chn p (trimI (derI p)) C ∧ signsI C false = R ∧ signsI C true = L
theorem Told.real {p L R : List Int} (hp : p.getLastD 0 ≠ 0) (h : Told p L R) : real p = decide (changes R < changes L) := by
  obtain ⟨C, hC, e1, e2⟩ := h.is
  rw [real_chn hp rfl hC, e1, e2]
theorem told {a b c d e : Int} (ha : a ≠ 0) : Told [e, d, c, b, a] (sg4 a b c d e (-1)) (sg4 a b c d e 1) := by
  have a4 : (4 * a : Int) ≠ 0 := by omega
  have sa : sgI a ≠ 0 := fun q => ha (sgI_zero.mp q)
  obtain ⟨R1, m1, n1, hm1, hn1, hR1, e1⟩ := rem1 (b := b) (c := c) (d := d) (e := e) ha
  have hB : trimI (derI [e, d, c, b, a]) = [d, 2 * c, 3 * b, 4 * a] := by rw [der4]; exact trimI_self a4
  have first : ∀ {C2 : List Int} {L : List (List Int)}, trimI [a * (b * d - 16 * a * e), a * (2 * (b * c - 6 * a * d)), a * (3 * b * b - 8 * a * c)] = C2 → Chn [d, 2 * c, 3 * b, 4 * a] C2 L → Chn [e, d, c, b, a] (trimI (derI [e, d, c, b, a])) ([e, d, c, b, a] :: L) := by
    intro C2 L h hC
    rw [hB]
    rw [h] at e1
    exact .more m1 n1 a4 hR1 hm1 hn1 e1 hC
  have p0 : ∀ left, sgP left [e, d, c, b, a] = sgI a := fun left => by
    unfold sgP
    rw [if_neg (by simp)]
    rfl
  have p1 : sgP false [d, 2 * c, 3 * b, 4 * a] = sgI a ∧ sgP true [d, 2 * c, 3 * b, 4 * a] = -sgI a := by
    unfold sgP
    rw [if_neg (by simp), if_pos (by simp)]
    show sgI (4 * a) = sgI a ∧ -sgI (4 * a) = -sgI a
    rw [sgI_four]
    exact ⟨rfl, rfl⟩
  have q3 : ∀ (left : Bool) (x y z : Int), sgP left [x, y, z] = sgI z := fun left x y z => by
    unfold sgP
    rw [if_neg (by simp)]
    rfl
  have q2 : ∀ (x y : Int), sgP false [x, y] = sgI y ∧ sgP true [x, y] = -sgI y := fun x y => by
    unfold sgP
    rw [if_neg (by simp), if_pos (by simp)]
    exact ⟨rfl, rfl⟩
  have q1 : ∀ (left : Bool) (x : Int), sgP left [x] = sgI x := fun left x => by
    unfold sgP
    rw [if_neg (by simp)]
    rfl
  unfold sg4
  dsimp only
  generalize hr : b * d - 16 * a * e = r at e1 first ⊢
  generalize hq : 2 * (b * c - 6 * a * d) = q at e1 first ⊢
  generalize hs : 3 * b * b - 8 * a * c = s at e1 first ⊢
  by_cases s0 : s = 0
  · subst s0
    simp only [ne_eq, not_true_eq_false, ↓reduceIte]
    by_cases q0 : q = 0
    · subst q0
      simp only [ne_eq, not_true_eq_false, ↓reduceIte]
      by_cases r0 : r = 0
      · subst r0
        simp only [ne_eq, not_true_eq_false, ↓reduceIte]
        refine ⟨_, first (C2 := []) (by simp [trimI]) .last, ?_, ?_⟩
        · unfold signsI
          simp only [List.map_cons, List.map_nil, p0, p1.1]
          simp [sa]
        · unfold signsI
          simp only [List.map_cons, List.map_nil, p0, p1.2]
          simp [sa]
      · simp only [ne_eq, r0, not_false_eq_true, ↓reduceIte]
        have har : a * r ≠ 0 := Int.mul_ne_zero ha r0
        have sr : sgI r ≠ 0 := fun q => r0 (sgI_zero.mp q)
        refine ⟨_, first (C2 := [a * r]) (by rw [Int.mul_zero]; rw [show [a * r, (0 : Int), 0] = [a * r] ++ [0] ++ [0] from rfl, trimI_zero, trimI_zero]; exact trimI_self har) (chn_const har), ?_, ?_⟩
        · unfold signsI
          simp only [List.map_cons, List.map_nil, p0, p1.1, q1, sgI_mul]
          simp [sa, sr]
        · unfold signsI
          simp only [List.map_cons, List.map_nil, p0, p1.2, q1, sgI_mul]
          simp [sa, sr]
    · simp only [ne_eq, q0, not_false_eq_true, ↓reduceIte]
      have haq : a * q ≠ 0 := Int.mul_ne_zero ha q0
      have sq : sgI q ≠ 0 := fun z => q0 (sgI_zero.mp z)
      obtain ⟨z, g, hg, hR, hz⟩ := rem_lin (x := a * q) (y := a * r) haq 4 [d, 2 * c, 3 * b, 4 * a] (by simp) (.inr a4)
      have sz : sgI z = sgI q * sgI (d * q * q * q - 2 * c * r * q * q + 3 * b * r * r * q - 4 * a * r * r * r) := by
        have ha' : (a : Rat) ≠ 0 := fun z => ha (Rat.intCast_eq_zero_iff.mp z)
        have hq' : (q : Rat) ≠ 0 := fun z => q0 (Rat.intCast_eq_zero_iff.mp z)
        have e2 : (z : Rat) * ((q * q * (q * q) : Int) : Rat) = g * ((q * (d * q * q * q - 2 * c * r * q * q + 3 * b * r * r * q - 4 * a * r * r * r) : Int) : Rat) := by
          rw [hz]
          show g * ((d : Rat) + _ * (((2 * c : Int) : Rat) + _ * (((3 * b : Int) : Rat) + _ * (((4 * a : Int) : Rat) + _ * 0)))) * _ = _
          simp only [Rat.intCast_mul, Rat.intCast_sub, Rat.intCast_add, Rat.intCast_ofNat]
          generalize (a : Rat) = a' at ha' ⊢
          generalize (q : Rat) = q' at hq' ⊢
          generalize (r : Rat) = r'
          generalize (b : Rat) = b'
          generalize (c : Rat) = c'
          generalize (d : Rat) = d'
          grind
        have e3 := congrArg sgn e2
        rw [← Rat.intCast_mul, sgn_pos hg, Cp.sgn_el, Cp.sgn_el, sgI_mul z, sgI_mul q (d * q * q * q - 2 * c * r * q * q + 3 * b * r * r * q - 4 * a * r * r * r)] at e3
        have e4 : sgI (q * q * (q * q)) = 1 := by
          have := sq_pos q0
          have := Int.mul_pos this this
          unfold sgI
          rw [if_pos this]
        rw [e4, Int.mul_one] at e3
        exact e3
      have hC2 : trimI [a * r, a * q, a * 0] = [a * r, a * q] := by
        rw [Int.mul_zero, show [a * r, a * q, (0 : Int)] = [a * r, a * q] ++ [0] from rfl, trimI_zero]
        exact trimI_self haq
      generalize d * q * q * q - 2 * c * r * q * q + 3 * b * r * r * q - 4 * a * r * r * r = h at sz ⊢
      by_cases h0 : h = 0
      · subst h0
        simp only [ne_eq, not_true_eq_false, ↓reduceIte]
        have z0 : z = 0 := sgI_zero.mp (by rw [sz]; show sgI q * 0 = 0; omega)
        subst z0
        refine ⟨_, first hC2 (.more 1 1 haq hR (by decide) (by decide) (C := []) rfl .last), ?_, ?_⟩
        · unfold signsI
          simp only [List.map_cons, List.map_nil, p0, p1.1, (q2 _ _).1, sgI_mul]
          simp [sa, sq]
        · unfold signsI
          simp only [List.map_cons, List.map_nil, p0, p1.2, (q2 _ _).2, sgI_mul]
          simp [sa, sq]
      · simp only [ne_eq, h0, not_false_eq_true, ↓reduceIte]
        have sh : sgI h ≠ 0 := fun z => h0 (sgI_zero.mp z)
        have z0 : z ≠ 0 := fun k => Int.mul_ne_zero sq sh (by rw [← sz, k]; rfl)
        have hz1 : trimI (trimI [z]) = [z] := by rw [trimI_idem]; exact trimI_self z0
        refine ⟨_, first hC2 (.more 1 1 haq hR (by decide) (by decide) (C := [-z]) (by rw [hz1]; simp) (chn_const (by omega))), ?_, ?_⟩
        · unfold signsI
          simp only [List.map_cons, List.map_nil, p0, p1.1, (q2 _ _).1, q1, sgI_mul, sgI_neg, sz]
          simp [sa, sq, sh]
        · unfold signsI
          simp only [List.map_cons, List.map_nil, p0, p1.2, (q2 _ _).2, q1, sgI_mul, sgI_neg, sz]
          simp [sa, sq, sh]
  · simp only [ne_eq, s0, not_false_eq_true, ↓reduceIte]
    have has : a * s ≠ 0 := Int.mul_ne_zero ha s0
    have ss : sgI s ≠ 0 := fun z => s0 (sgI_zero.mp z)
    have hC2 : trimI [a * r, a * q, a * s] = [a * r, a * q, a * s] := trimI_self has
    obtain ⟨R2, m2, n2, hm2, hn2, hR2, e2⟩ := rem2 (b := b) (c := c) (d := d) (r := r) (q := q) ha s0
    generalize hv : s * s * d - (3 * b * s - 4 * a * q) * r = v at e2 ⊢
    generalize hu : 2 * c * (s * s) - 4 * a * r * s - (3 * b * s - 4 * a * q) * q = u at e2 ⊢
    by_cases u0 : u = 0
    · subst u0
      simp only [ne_eq, not_true_eq_false, ↓reduceIte]
      by_cases v0 : v = 0
      · subst v0
        simp only [ne_eq, not_true_eq_false, ↓reduceIte]
        refine ⟨_, first hC2 (.more m2 n2 has hR2 hm2 hn2 (C := []) (by rw [e2]; rfl) .last), ?_, ?_⟩
        · unfold signsI
          simp only [List.map_cons, List.map_nil, p0, p1.1, q3, sgI_mul]
          simp [sa, ss]
        · unfold signsI
          simp only [List.map_cons, List.map_nil, p0, p1.2, q3, sgI_mul]
          simp [sa, ss]
      · simp only [ne_eq, v0, not_false_eq_true, ↓reduceIte]
        have sv : sgI v ≠ 0 := fun z => v0 (sgI_zero.mp z)
        have ht : trimI [-v, -(0 : Int)] = [-v] := by
          show trimI ([-v] ++ [0]) = _
          rw [trimI_zero]
          exact trimI_self (by show -v ≠ 0; omega)
        refine ⟨_, first hC2 (.more m2 n2 has hR2 hm2 hn2 (C := [-v]) (by rw [e2, ht]) (chn_const (by omega))), ?_, ?_⟩
        · unfold signsI
          simp only [List.map_cons, List.map_nil, p0, p1.1, q3, q1, sgI_mul, sgI_neg]
          simp [sa, ss, sv]
        · unfold signsI
          simp only [List.map_cons, List.map_nil, p0, p1.2, q3, q1, sgI_mul, sgI_neg]
          simp [sa, ss, sv]
    · simp only [ne_eq, u0, not_false_eq_true, ↓reduceIte]
      have su : sgI u ≠ 0 := fun z => u0 (sgI_zero.mp z)
      have ht : trimI [-v, -u] = [-v, -u] := trimI_self (by show -u ≠ 0; omega)
      obtain ⟨R3, m3, n3, hm3, hn3, hR3, e3⟩ := rem3 (r := r) (q := q) (v := v) s0 ha u0
      generalize u * u * r - u * q * v + s * v * v = w at e3 ⊢
      have nu : -u ≠ 0 := by omega
      by_cases w0 : w = 0
      · subst w0
        simp only [ne_eq, not_true_eq_false, ↓reduceIte]
        refine ⟨_, first hC2 (.more m2 n2 has hR2 hm2 hn2 (C := [-v, -u]) (by rw [e2, ht]) (.more m3 n3 nu hR3 hm3 hn3 (C := []) (by rw [e3, Int.mul_zero]; rfl) .last)), ?_, ?_⟩
        · unfold signsI
          simp only [List.map_cons, List.map_nil, p0, p1.1, q3, (q2 _ _).1, sgI_mul, sgI_neg]
          simp [sa, ss, su]
        · unfold signsI
          simp only [List.map_cons, List.map_nil, p0, p1.2, q3, (q2 _ _).2, sgI_mul, sgI_neg]
          simp [sa, ss, su]
      · simp only [ne_eq, w0, not_false_eq_true, ↓reduceIte]
        have sw : sgI w ≠ 0 := fun z => w0 (sgI_zero.mp z)
        have haw : -(a * w) ≠ 0 := fun z => Int.mul_ne_zero ha w0 (by omega)
        have ht3 : trimI [-(a * w)] = [-(a * w)] := trimI_self haw
        refine ⟨_, first hC2 (.more m2 n2 has hR2 hm2 hn2 (C := [-v, -u]) (by rw [e2, ht]) (.more m3 n3 nu hR3 hm3 hn3 (C := [-(a * w)]) (by rw [e3, ht3]) (chn_const haw))), ?_, ?_⟩
        · unfold signsI
          simp only [List.map_cons, List.map_nil, p0, p1.1, q3, (q2 _ _).1, q1, sgI_mul, sgI_neg]
          simp [sa, ss, su, sw]
        · unfold signsI
          simp only [List.map_cons, List.map_nil, p0, p1.2, q3, (q2 _ _).2, q1, sgI_mul, sgI_neg]
          simp [sa, ss, su, sw]
/-- **the specification's real of a quartic, by the signs of whole numbers made of its five** -/
theorem real4 {a b c d e : Int} (ha : a ≠ 0) : real [e, d, c, b, a] = decide (changes (sg4 a b c d e 1) < changes (sg4 a b c d e (-1))) := (told ha).real ha
end St
#print axioms St.real4

set_option linter.all false
/-! A quartic that has no fraction for a root, by a whole root of its cubic: the numbers of its chain. -/
namespace Qt
open Se04 (changes real)
open Cp (sgI)
theorem sg_cases {x : Int} (h : x ≠ 0) : (sgI x = 1 ∧ 0 < x) ∨ (sgI x = -1 ∧ x < 0) := by
  rcases Int.lt_trichotomy x 0 with hx | hx | hx
  · exact .inr ⟨St.sgI_of_neg hx, hx⟩
  · exact absurd hx h
  · exact .inl ⟨St.sgI_of_pos hx, hx⟩
theorem neg_mul_neg {x y : Int} (hx : x < 0) (hy : y < 0) : 0 < x * y := Int.mul_pos_of_neg_of_neg hx hy
/-- real of a quartic, by signs -/
theorem real_iff {a b c d e s q r k v u w h : Int} (ha : a ≠ 0) (hs : s = 3 * b * b - 8 * a * c) (hq : q = 2 * (b * c - 6 * a * d)) (hr : r = b * d - 16 * a * e) (hk : k = 3 * b * s - 4 * a * q)
    (hv : v = s * s * d - k * r) (hu : u = 2 * c * (s * s) - 4 * a * r * s - k * q) (hw : w = u * u * r - u * q * v + s * v * v) (hh : h = d * q * q * q - 2 * c * r * q * q + 3 * b * r * r * q - 4 * a * r * r * r) :
    real [e, d, c, b, a] = true ↔ (0 < s ∧ (a * u ≤ 0 ∨ 0 ≤ w)) ∨ (s < 0 ∧ 0 < a * u ∧ 0 ≤ w) ∨ (s = 0 ∧ q ≠ 0 ∧ a * h ≤ 0) ∨ (s = 0 ∧ q = 0 ∧ 0 ≤ r) := by
  rw [St.real4 ha, decide_eq_true_eq]
  unfold St.sg4
  dsimp only
  rw [← hs, ← hq, ← hr, ← hk, ← hv, ← hu, ← hw, ← hh]
  clear hs hq hr hk hv hu hw hh
  by_cases s0 : s = 0
  · subst s0
    simp only [ne_eq, not_true_eq_false, ↓reduceIte]
    by_cases q0 : q = 0
    · subst q0
      simp only [ne_eq, not_true_eq_false, ↓reduceIte]
      by_cases r0 : r = 0
      · subst r0
        simp only [ne_eq, not_true_eq_false, ↓reduceIte]
        rcases sg_cases ha with ⟨e1, h1⟩ | ⟨e1, h1⟩ <;> rw [e1] <;> simp [changes]
      · simp only [ne_eq, r0, not_false_eq_true, ↓reduceIte]
        rcases sg_cases ha with ⟨e1, h1⟩ | ⟨e1, h1⟩ <;> rcases sg_cases r0 with ⟨e2, h2⟩ | ⟨e2, h2⟩ <;> rw [e1, e2] <;> simp [changes] <;> omega
    · simp only [ne_eq, q0, not_false_eq_true, ↓reduceIte]
      by_cases h0 : h = 0
      · subst h0
        simp only [ne_eq, not_true_eq_false, ↓reduceIte]
        rcases sg_cases ha with ⟨e1, h1⟩ | ⟨e1, h1⟩ <;> rcases sg_cases q0 with ⟨e2, h2⟩ | ⟨e2, h2⟩ <;> rw [e1, e2] <;> simp [changes]
      · simp only [ne_eq, h0, not_false_eq_true, ↓reduceIte]
        have p1 : 0 < a → 0 < h → 0 < a * h := Int.mul_pos
        have p2 : 0 < a → h < 0 → a * h < 0 := Int.mul_neg_of_pos_of_neg
        have p3 : a < 0 → 0 < h → a * h < 0 := Int.mul_neg_of_neg_of_pos
        have p4 : a < 0 → h < 0 → 0 < a * h := Int.mul_pos_of_neg_of_neg
        rcases sg_cases ha with ⟨e1, h1⟩ | ⟨e1, h1⟩ <;> rcases sg_cases q0 with ⟨e2, h2⟩ | ⟨e2, h2⟩ <;> rcases sg_cases h0 with ⟨e3, h3⟩ | ⟨e3, h3⟩ <;> rw [e1, e2, e3] <;> simp [changes] <;> omega
  · simp only [ne_eq, s0, not_false_eq_true, ↓reduceIte]
    by_cases u0 : u = 0
    · subst u0
      simp only [ne_eq, not_true_eq_false, ↓reduceIte]
      by_cases v0 : v = 0
      · subst v0
        simp only [ne_eq, not_true_eq_false, ↓reduceIte]
        rcases sg_cases ha with ⟨e1, h1⟩ | ⟨e1, h1⟩ <;> rcases sg_cases s0 with ⟨e2, h2⟩ | ⟨e2, h2⟩ <;> rw [e1, e2] <;> simp [changes] <;> omega
      · simp only [ne_eq, v0, not_false_eq_true, ↓reduceIte]
        rcases sg_cases ha with ⟨e1, h1⟩ | ⟨e1, h1⟩ <;> rcases sg_cases s0 with ⟨e2, h2⟩ | ⟨e2, h2⟩ <;> rcases sg_cases v0 with ⟨e3, h3⟩ | ⟨e3, h3⟩ <;> rw [e1, e2, e3] <;> simp [changes] <;> omega
    · simp only [ne_eq, u0, not_false_eq_true, ↓reduceIte]
      have p1 : 0 < a → 0 < u → 0 < a * u := Int.mul_pos
      have p2 : 0 < a → u < 0 → a * u < 0 := Int.mul_neg_of_pos_of_neg
      have p3 : a < 0 → 0 < u → a * u < 0 := Int.mul_neg_of_neg_of_pos
      have p4 : a < 0 → u < 0 → 0 < a * u := Int.mul_pos_of_neg_of_neg
      by_cases w0 : w = 0
      · subst w0
        simp only [ne_eq, not_true_eq_false, ↓reduceIte]
        rcases sg_cases ha with ⟨e1, h1⟩ | ⟨e1, h1⟩ <;> rcases sg_cases s0 with ⟨e2, h2⟩ | ⟨e2, h2⟩ <;> rcases sg_cases u0 with ⟨e3, h3⟩ | ⟨e3, h3⟩ <;> rw [e1, e2, e3] <;> simp [changes] <;> omega
      · simp only [ne_eq, w0, not_false_eq_true, ↓reduceIte]
        rcases sg_cases ha with ⟨e1, h1⟩ | ⟨e1, h1⟩ <;> rcases sg_cases s0 with ⟨e2, h2⟩ | ⟨e2, h2⟩ <;> rcases sg_cases u0 with ⟨e3, h3⟩ | ⟨e3, h3⟩ <;> rcases sg_cases w0 with ⟨e4, h4⟩ | ⟨e4, h4⟩ <;> rw [e1, e2, e3, e4] <;> simp [changes] <;> omega
end Qt

set_option linter.all false
namespace Qt
open Se04 (changes real)
open Cp (sgI)
/-- what the cubic's whole root z makes of a quartic: 4 a p is the square of 2 a x x + b x + z less m x x + 2 n x + o, and m o = n n -/
structure Parted (a b c d e z m n o : Int) : Prop where
  ha : a ≠ 0
  hm : m = b * b - 4 * a * c + 4 * a * z
  hn : n = b * z - 2 * a * d
  ho : o = z * z - 4 * a * e
  no : m * o = n * n
theorem parted {a b c d e z : Int} (ha : a ≠ 0) (hz : (4 * e * c * a - e * b * b - d * d * a) + (d * b - 4 * e * a) * z + (-c) * (z * z) + z * z * z = 0) :
    Parted a b c d e z (b * b - 4 * a * c + 4 * a * z) (b * z - 2 * a * d) (z * z - 4 * a * e) := ⟨ha, rfl, rfl, rfl, by grind⟩
section
variable {a b c d e z m n o s q r k v u w h B : Int}
/-- the numbers of the chain, by b, s, m, B -/
structure Nums (a b c d s q r k m B : Int) : Prop where
  c8 : 8 * a * c = 3 * b * b - s
  d16 : 16 * a * a * d = b * b * b - b * s + B
  q4 : 4 * a * q = 2 * b * s - 3 * B
  k1 : k = b * s + 3 * B
  r16 : 16 * a * a * m * r = b * b * m * s - 3 * b * m * B - (m * (s - 2 * m) * (s - 2 * m) - B * B)
theorem nums (H : Parted a b c d e z m n o) (hs : s = 3 * b * b - 8 * a * c) (hB : B = 2 * b * m - 8 * a * n) (hq : q = 2 * (b * c - 6 * a * d)) (hr : r = b * d - 16 * a * e) (hk : k = 3 * b * s - 4 * a * q) : Nums a b c d s q r k m B := by
  have c8 : 8 * a * c = 3 * b * b - s := by omega
  have e1 : s = b * b - 8 * a * z + 2 * m := by have := H.hm; grind
  have g3 : 2 * a * d = b * z - n := by have := H.hn; omega
  have g5 : 8 * a * z = b * b + 2 * m - s := by omega
  have g6 : 8 * a * n = 2 * b * m - B := by omega
  have d16 : 16 * a * a * d = b * b * b - b * s + B := by
    have f : 16 * a * a * d = 8 * a * (2 * a * d) := by grind
    have f' : 8 * a * (b * z - n) = b * (8 * a * z) - 8 * a * n := by grind
    rw [f, g3, f', g5, g6]

    grind
  have q4 : 4 * a * q = 2 * b * s - 3 * B := by
    have f : 4 * a * q = b * (8 * a * c) - 3 * (16 * a * a * d) := by rw [hq]; grind
    rw [f, c8, d16]

    grind
  refine ⟨c8, d16, q4, by rw [hk, q4]; grind, ?_⟩
  have h1 := H.hm
  have h2 := H.hn
  have h3 := H.ho
  have h4 := H.no
  -- by z, n, o
  have f1 : 16 * a * a * m * r = 8 * b * m * (2 * a * a * d) - 64 * a * a * m * (4 * a * e) := by rw [hr]; grind
  have f2 : 4 * a * e = z * z - o := by omega
  have f4 : 16 * a * a * m * r = 8 * b * m * a * (b * z - n) - 64 * a * a * m * (z * z) + 64 * a * a * (n * n) := by
    rw [f1, f2, ← h4, ← g3]; grind
  have f7 : 16 * a * a * m * r = b * m * (b * (8 * a * z) - 8 * a * n) - m * ((8 * a * z) * (8 * a * z)) + (8 * a * n) * (8 * a * n) := by rw [f4]; grind
  rw [f7, g5, g6]

  grind
theorem u_is (N : Nums a b c d s q r k m B) (hu : u = 2 * c * (s * s) - 4 * a * r * s - k * q) : 4 * m * (a * u) = s * (m * (s - 2 * m) * (s - 2 * m) - B * B) + 9 * m * (B * B) - m * (s * s * s) := by
  have f : 4 * m * (a * u) = (8 * a * c) * (m * (s * s)) - (16 * a * a * m * r) * s - m * k * (4 * a * q) := by rw [hu]; grind
  rw [f, N.c8, N.r16, N.q4, N.k1]
  grind
theorem v_is (N : Nums a b c d s q r k m B) (hv : v = s * s * d - k * r) : 16 * a * a * m * v = b * (s * (m * (s - 2 * m) * (s - 2 * m) - B * B) + 9 * m * (B * B) - m * (s * s * s)) + B * (m * (s * s) + 3 * (m * (s - 2 * m) * (s - 2 * m) - B * B)) := by
  have f : 16 * a * a * m * v = m * (s * s) * (16 * a * a * d) - k * (16 * a * a * m * r) := by rw [hv]; grind
  rw [f, N.d16, N.r16, N.k1]
  grind
/-- with a name for what is in brackets -/
theorem w_step {ρ U T : Int} (e1 : 4 * m * (a * u) = U) (e2 : 16 * a * a * m * v = b * U + B * T) (e3 : 16 * a * a * m * r = b * b * m * s - 3 * b * m * B - ρ) (e4 : 4 * a * q = 2 * b * s - 3 * B) (hw : w = u * u * r - u * q * v + s * v * v) :
    256 * (a * a * a * a) * (m * m * m) * w = -ρ * (U * U) + 3 * m * (B * B) * U * T + m * s * (B * B) * (T * T) := by
  have f : 256 * (a * a * a * a) * (m * m * m) * w = (4 * m * (a * u)) * (4 * m * (a * u)) * (16 * a * a * m * r) - m * (4 * m * (a * u)) * (4 * a * q) * (16 * a * a * m * v) + m * s * ((16 * a * a * m * v) * (16 * a * a * m * v)) := by rw [hw]; grind
  rw [f, e1, e2, e3, e4]
  grind
theorem w_poly (s m B : Int) : -(m * (s - 2 * m) * (s - 2 * m) - B * B) * ((s * (m * (s - 2 * m) * (s - 2 * m) - B * B) + 9 * m * (B * B) - m * (s * s * s)) * (s * (m * (s - 2 * m) * (s - 2 * m) - B * B) + 9 * m * (B * B) - m * (s * s * s)))
    + 3 * m * (B * B) * (s * (m * (s - 2 * m) * (s - 2 * m) - B * B) + 9 * m * (B * B) - m * (s * s * s)) * (m * (s * s) + 3 * (m * (s - 2 * m) * (s - 2 * m) - B * B))
    + m * s * (B * B) * ((m * (s * s) + 3 * (m * (s - 2 * m) * (s - 2 * m) - B * B)) * (m * (s * s) + 3 * (m * (s - 2 * m) * (s - 2 * m) - B * B)))
    = -((m * ((s - m) * (s - m)) - B * B) * ((s * (B * B + 8 * (m * m * m) - 4 * (m * m) * s)) * (s * (B * B + 8 * (m * m * m) - 4 * (m * m) * s)))) := by
  grind
theorem w_is (N : Nums a b c d s q r k m B) (hu : u = 2 * c * (s * s) - 4 * a * r * s - k * q) (hv : v = s * s * d - k * r) (hw : w = u * u * r - u * q * v + s * v * v) :
    256 * (a * a * a * a) * (m * m * m) * w = -((m * ((s - m) * (s - m)) - B * B) * ((s * (B * B + 8 * (m * m * m) - 4 * (m * m) * s)) * (s * (B * B + 8 * (m * m * m) - 4 * (m * m) * s)))) := by
  rw [w_step (u_is N hu) (v_is N hv) N.r16 N.q4 hw]
  exact w_poly s m B
theorem h_is (N : Nums a b c d 0 q r k m B) (hh : h = d * q * q * q - 2 * c * r * q * q + 3 * b * r * r * q - 4 * a * r * r * r) :
    1024 * (a * a * a * a) * (m * m * m) * (a * h) = (m * m * m - B * B) * ((B * B + 8 * (m * m * m)) * (B * B + 8 * (m * m * m))) := by
  have f : 1024 * (a * a * a * a) * (m * m * m) * (a * h) = (m * m * m) * (16 * a * a * d) * ((4 * a * q) * (4 * a * q) * (4 * a * q)) - (m * m) * (8 * a * c) * (16 * a * a * m * r) * ((4 * a * q) * (4 * a * q)) + 3 * b * m * ((16 * a * a * m * r) * (16 * a * a * m * r)) * (4 * a * q) - (16 * a * a * m * r) * (16 * a * a * m * r) * (16 * a * a * m * r) := by rw [hh]; grind
  rw [f, N.c8, N.d16, N.q4, N.r16]
  grind
/-- where the two quadratics have a root in common, the quartic has a fraction for a root -/
theorem y_is (H : Parted a b c d e z m n o) (hs : s = 3 * b * b - 8 * a * c) (hB : B = 2 * b * m - 8 * a * n) : B * B + 8 * (m * m * m) - 4 * (m * m) * s = 32 * a * (2 * a * (n * n) - b * m * n + m * m * z) := by
  have h1 := H.hm
  have e1 : s = b * b - 8 * a * z + 2 * m := by grind
  rw [hB, e1]
  grind
theorem p_is (H : Parted a b c d e z m n o) : 4 * a * (a * (n * n * n * n) - b * (n * n * n) * m + c * (n * n) * (m * m) - d * n * (m * m * m) + e * (m * m * m * m)) = (2 * a * (n * n) - b * m * n + m * m * z) * (2 * a * (n * n) - b * m * n + m * m * z) := by
  have f1 : 4 * a * c = b * b + 4 * a * z - m := by have := H.hm; omega
  have f2 : 2 * a * d = b * z - n := by have := H.hn; omega
  have f3 : 4 * a * e = z * z - o := by have := H.ho; omega
  have f : 4 * a * (a * (n * n * n * n) - b * (n * n * n) * m + c * (n * n) * (m * m) - d * n * (m * m * m) + e * (m * m * m * m)) = 4 * a * a * (n * n * n * n) - 4 * a * b * (n * n * n) * m + (4 * a * c) * (n * n) * (m * m) - 2 * (2 * a * d) * n * (m * m * m) + (4 * a * e) * (m * m * m * m) := by grind
  have h4 := H.no
  rw [f, f1, f2, f3]
  have g : o * (m * m * m * m) = n * n * (m * m * m) := by rw [← h4]; grind
  grind
end
end Qt

set_option linter.all false
namespace Qt
open Se04 (changes real)
open Cp (sgI absI)
theorem sq_nn (x : Int) : 0 ≤ x * x := by
  rcases Int.lt_trichotomy x 0 with h | h | h
  · exact Int.le_of_lt (Int.mul_pos_of_neg_of_neg h h)
  · rw [h]; decide
  · exact Int.le_of_lt (Int.mul_pos h h)
theorem sq_pos {x : Int} (hx : x ≠ 0) : 0 < x * x := by
  have := sq_nn x
  have : x * x ≠ 0 := Int.mul_ne_zero hx hx
  omega
theorem sgn_same {x y k l : Int} (hk : 0 < k) (hl : 0 < l) (h : k * x = l * y) : (0 < x ↔ 0 < y) ∧ (x < 0 ↔ y < 0) := by
  rcases Int.lt_trichotomy x 0 with hx | hx | hx <;> rcases Int.lt_trichotomy y 0 with hy | hy | hy
  · exact ⟨by omega, by omega⟩
  · have := Int.mul_neg_of_pos_of_neg hk hx
    rw [h, hy, Int.mul_zero] at this
    omega
  · have := Int.mul_neg_of_pos_of_neg hk hx
    have := Int.mul_pos hl hy
    omega
  · have := Int.mul_neg_of_pos_of_neg hl hy
    rw [← h, hx, Int.mul_zero] at this
    omega
  · exact ⟨by omega, by omega⟩
  · have := Int.mul_pos hl hy
    rw [← h, hx, Int.mul_zero] at this
    omega
  · have := Int.mul_pos hk hx
    have := Int.mul_neg_of_pos_of_neg hl hy
    omega
  · have := Int.mul_pos hk hx
    rw [h, hy, Int.mul_zero] at this
    omega
  · exact ⟨by omega, by omega⟩
theorem mul_nn {x y : Int} (hx : 0 ≤ x) (hy : 0 ≤ y) : 0 ≤ x * y := Int.mul_nonneg hx hy
section
variable {s m B : Int}
/-- the number behind the chain's third sign -/
abbrev UU (s m B : Int) : Int := s * (m * (s - 2 * m) * (s - 2 * m) - B * B) + 9 * m * (B * B) - m * (s * s * s)
abbrev PP (s m B : Int) : Int := m * ((s - m) * (s - m)) - B * B
/-- with A for s - m -/
theorem U_is (s m B : Int) : UU s m B = -(4 * (s - m) * (m * m) * s) + (B * B) * (8 * m - (s - m)) := by
  show s * (m * (s - 2 * m) * (s - 2 * m) - B * B) + 9 * m * (B * B) - m * (s * s * s) = _
  grind
theorem U_P (s m B : Int) : UU s m B = -(m * (s - m) * ((2 * m - (s - m)) * (2 * m - (s - m)))) - PP s m B * (8 * m - (s - m)) := by
  show s * (m * (s - 2 * m) * (s - 2 * m) - B * B) + 9 * m * (B * B) - m * (s * s * s) = -(m * (s - m) * ((2 * m - (s - m)) * (2 * m - (s - m)))) - (m * ((s - m) * (s - m)) - B * B) * (8 * m - (s - m))
  grind
theorem U1 (hm : 0 < m) (hP : PP s m B ≤ 0) (hs : s < 0) : 0 < UU s m B := by
  rw [U_P]
  have a1 : s - m < 0 := by omega
  have a2 : m * (s - m) < 0 := Int.mul_neg_of_pos_of_neg hm a1
  have a3 : 0 < (2 * m - (s - m)) * (2 * m - (s - m)) := sq_pos (by omega)
  have a4 := Int.mul_neg_of_neg_of_pos a2 a3
  have a5 : 0 ≤ -(PP s m B) * (8 * m - (s - m)) := mul_nn (by omega) (by omega)
  rw [Int.neg_mul] at a5
  omega
theorem U2 (hm : 0 < m) (hP : 0 < PP s m B) (hA : 0 ≤ s - m) : UU s m B ≤ 0 := by
  by_cases h : 8 * m - (s - m) ≤ 0
  · rw [U_is]
    have a1 : 0 ≤ 4 * (s - m) * (m * m) * s := mul_nn (mul_nn (by omega) (sq_nn m)) (by omega)
    have a2 : 0 ≤ (B * B) * -(8 * m - (s - m)) := mul_nn (sq_nn B) (by omega)
    rw [Int.mul_neg] at a2
    omega
  · rw [U_P]
    have a1 : 0 ≤ m * (s - m) * ((2 * m - (s - m)) * (2 * m - (s - m))) := mul_nn (mul_nn (by omega) hA) (sq_nn _)
    have a2 : 0 < PP s m B * (8 * m - (s - m)) := Int.mul_pos hP (by omega)
    omega
theorem U3 (hm : 0 < m) (hA : s - m < 0) (hs : 0 < s) : 0 < UU s m B := by
  rw [U_is]
  have a1 : 4 * (s - m) * (m * m) * s < 0 := Int.mul_neg_of_neg_of_pos (Int.mul_neg_of_neg_of_pos (by omega) (sq_pos (by omega))) hs
  have a2 : 0 ≤ (B * B) * (8 * m - (s - m)) := mul_nn (sq_nn B) (by omega)
  omega
theorem U4 (hm : m < 0) (hs : 0 < s) : UU s m B < 0 := by
  rw [U_is]
  have a1 : 0 < 4 * (s - m) * (m * m) * s := Int.mul_pos (Int.mul_pos (by omega) (sq_pos (by omega))) hs
  have a2 : 0 ≤ (B * B) * -(8 * m - (s - m)) := mul_nn (sq_nn B) (by omega)
  rw [Int.mul_neg] at a2
  omega
end
/-- what the program asks of the second quadratics' discriminants -/
def side1 (d x y : Int) : Int := if sgI x = 0 then sgI y else if sgI y = 0 ∨ sgI x = sgI y then sgI x else sgI x * sgI (x * x - y * y * d)
def zeroI (a b c d e z : Int) : Bool :=
  let m := b * b - 4 * a * c + 4 * a * z
  let n := b * z - 2 * a * d
  let w := z * z - 4 * a * e
  if 0 < m then decide (0 ≤ side1 m (m * (b * b + m - 8 * a * z)) (absI (8 * a * n - 2 * b * m)))
  else if m = 0 ∧ 0 ≤ w then decide (0 ≤ side1 w (b * b - 8 * a * z) (absI (8 * a)))
  else false
theorem absI_sq (x : Int) : absI x * absI x = x * x := by
  unfold Cp.absI
  split
  · rw [Int.neg_mul_neg]
  · rfl
theorem absI_nn (x : Int) : 0 ≤ absI x := by unfold Cp.absI; split <;> omega
theorem side1_iff {d x y : Int} (hy : 0 ≤ y) : 0 ≤ side1 d x y ↔ 0 ≤ x ∨ x * x ≤ y * y * d := by
  unfold side1
  rcases Int.lt_trichotomy x 0 with hx | hx | hx
  · have ex := St.sgI_of_neg hx
    by_cases y0 : y = 0
    · subst y0
      have := sq_pos (show x ≠ 0 by omega)
      rw [ex, show sgI (0 : Int) = 0 from rfl, if_neg (by decide), if_pos (.inl rfl)]
      simp only [Int.zero_mul]
      omega
    · have ey := St.sgI_of_pos (show 0 < y by omega)
      rw [ex, ey, if_neg (by decide), if_neg (by decide)]
      rcases Int.lt_trichotomy (x * x - y * y * d) 0 with hz | hz | hz
      · rw [St.sgI_of_neg hz]; omega
      · rw [hz]; show 0 ≤ -1 * 0 ↔ _; omega
      · rw [St.sgI_of_pos hz]; omega
  · subst hx
    rw [show sgI (0 : Int) = 0 from rfl, if_pos rfl]
    have : 0 ≤ sgI y := by unfold sgI; split <;> (try split) <;> omega
    omega
  · have ex := St.sgI_of_pos hx
    rw [ex, if_neg (by decide)]
    by_cases y0 : y = 0
    · subst y0
      rw [if_pos (.inl rfl)]
      omega
    · rw [St.sgI_of_pos (show 0 < y by omega), if_pos (.inr rfl)]
      omega
section
variable {a b c d e z m n o : Int}
/-- **real, by a whole root of the cubic** -/
theorem real_part (H : Parted a b c d e z m n o) (hR : m ≠ 0 → 2 * a * (n * n) - b * m * n + m * m * z ≠ 0) :
    real [e, d, c, b, a] = true ↔ (0 < m ∧ (0 ≤ b * b + m - 8 * a * z ∨ m * ((b * b + m - 8 * a * z) * (b * b + m - 8 * a * z)) ≤ (8 * a * n - 2 * b * m) * (8 * a * n - 2 * b * m))) ∨ (m = 0 ∧ 0 ≤ o ∧ (0 ≤ b * b - 8 * a * z ∨ (b * b - 8 * a * z) * (b * b - 8 * a * z) ≤ 64 * (a * a) * o)) := by
  have ha := H.ha
  obtain ⟨s, hs⟩ : ∃ s, s = 3 * b * b - 8 * a * c := ⟨_, rfl⟩
  obtain ⟨q, hq⟩ : ∃ q, q = 2 * (b * c - 6 * a * d) := ⟨_, rfl⟩
  obtain ⟨r, hr⟩ : ∃ r, r = b * d - 16 * a * e := ⟨_, rfl⟩
  obtain ⟨k, hk⟩ : ∃ k, k = 3 * b * s - 4 * a * q := ⟨_, rfl⟩
  obtain ⟨v, hv⟩ : ∃ v, v = s * s * d - k * r := ⟨_, rfl⟩
  obtain ⟨u, hu⟩ : ∃ u, u = 2 * c * (s * s) - 4 * a * r * s - k * q := ⟨_, rfl⟩
  obtain ⟨w, hw⟩ : ∃ w, w = u * u * r - u * q * v + s * v * v := ⟨_, rfl⟩
  obtain ⟨h, hh⟩ : ∃ h, h = d * q * q * q - 2 * c * r * q * q + 3 * b * r * r * q - 4 * a * r * r * r := ⟨_, rfl⟩
  rw [real_iff ha hs hq hr hk hv hu hw hh]
  obtain ⟨B, hB⟩ : ∃ B, B = 2 * b * m - 8 * a * n := ⟨_, rfl⟩
  have N := nums H hs hB hq hr hk
  have eA : b * b + m - 8 * a * z = s - m := by
    have := H.hm
    have : s = b * b - 8 * a * z + 2 * m := by grind
    omega
  have eB : (8 * a * n - 2 * b * m) * (8 * a * n - 2 * b * m) = B * B := by rw [hB]; grind
  rw [eA, eB]
  have a2 : 0 < a * a := sq_pos ha
  have a4 : 0 < a * a * a * a := by rw [Int.mul_assoc (a * a)]; exact Int.mul_pos a2 a2
  have Eu := u_is N hu
  have Ew := w_is N hu hv hw
  rcases Int.lt_trichotomy m 0 with hm | hm | hm
  · -- m below 0: nothing
    have hY := y_is H hs hB
    have Rr : B * B + 8 * (m * m * m) - 4 * (m * m) * s ≠ 0 := by
      rw [hY]
      exact Int.mul_ne_zero (by omega) (hR (by omega))
    have m3 : 0 < -(m * m * m) := by
      have := Int.mul_neg_of_pos_of_neg (sq_pos (show m ≠ 0 by omega)) hm
      omega
    have Pn : PP s m B ≤ 0 := by
      have x1 : 0 ≤ -m * ((s - m) * (s - m)) := mul_nn (by omega) (sq_nn _)
      have x2 := sq_nn B
      rw [Int.neg_mul] at x1
      show m * ((s - m) * (s - m)) - B * B ≤ 0
      omega
    have P0 : PP s m B = 0 → s = m ∧ B = 0 := by
      intro q
      have x1 : 0 ≤ -m * ((s - m) * (s - m)) := mul_nn (by omega) (sq_nn _)
      have x2 := sq_nn B
      have q : m * ((s - m) * (s - m)) - B * B = 0 := q
      rw [Int.neg_mul] at x1
      have y1 : m * ((s - m) * (s - m)) = 0 := by omega
      have y2 : B * B = 0 := by omega
      refine ⟨?_, (Int.mul_eq_zero.mp y2).elim id id⟩
      have := (Int.mul_eq_zero.mp ((Int.mul_eq_zero.mp y1).resolve_left (by omega))).elim id id
      omega
    have sw : s ≠ 0 → (0 < w ↔ 0 < PP s m B) ∧ (w < 0 ↔ PP s m B < 0) := fun s0 =>
      sgn_same (k := 256 * (a * a * a * a) * -(m * m * m)) (l := (s * (B * B + 8 * (m * m * m) - 4 * (m * m) * s)) * (s * (B * B + 8 * (m * m * m) - 4 * (m * m) * s))) (Int.mul_pos (by omega) m3) (sq_pos (Int.mul_ne_zero s0 Rr)) (by rw [Int.mul_neg, Int.neg_mul, Ew, Int.neg_neg, Int.mul_comm])
    have su : (0 < a * u ↔ 0 < -(UU s m B)) ∧ (a * u < 0 ↔ -(UU s m B) < 0) :=
      sgn_same (k := -(4 * m)) (l := 1) (by omega) (by decide) (by rw [Int.neg_mul, Eu, Int.one_mul])
    constructor
    · rintro (⟨h1, h2⟩ | ⟨h1, h2, h3⟩ | ⟨h1, h2, h3⟩ | ⟨h1, h2, h3⟩)
      · exfalso
        have := U4 (B := B) hm h1
        rcases h2 with h2 | h2
        · have := su.1.mpr (by omega)
          omega
        · have sw := sw (by omega)
          by_cases q : PP s m B = 0
          · have := (P0 q).1
            omega
          · have := sw.2.mpr (by omega)
            omega
      · exfalso
        have sw := sw (by omega)
        by_cases q : PP s m B = 0
        · obtain ⟨rfl, rfl⟩ := P0 q
          have : UU s s 0 = 0 := by
            show s * (s * (s - 2 * s) * (s - 2 * s) - 0 * 0) + 9 * s * (0 * 0) - s * (s * s * s) = 0
            grind
          have := su.1.mp h2
          omega
        · have := sw.2.mpr (by omega)
          omega
      · exfalso
        subst h1
        have Eh := h_is N hh
        have Bq : B ≠ 0 := fun z => h2 (by
          have := N.q4
          rw [z] at this
          have t : 4 * a * q = 0 := by omega
          exact (Int.mul_eq_zero.mp t).resolve_left (by omega))
        have B2 := sq_pos Bq
        have Rr' : B * B + 8 * (m * m * m) ≠ 0 := by
          intro z
          refine Rr ?_
          omega
        have t := sgn_same (x := a * h) (y := -(m * m * m - B * B)) (k := 1024 * (a * a * a * a) * -(m * m * m)) (l := (B * B + 8 * (m * m * m)) * (B * B + 8 * (m * m * m))) (Int.mul_pos (by omega) m3) (sq_pos Rr') (by rw [Int.mul_neg, Int.neg_mul, Eh, Int.mul_neg, Int.mul_comm])
        have := t.1.mpr (by omega)
        omega
      · exfalso
        subst h1
        have Bq : B = 0 := by
          have := N.q4
          rw [h2] at this
          omega
        subst Bq
        have e1 := N.r16
        have e2 : m * (16 * (a * a) * r + 4 * (m * m)) = 0 := by
          have : m * (16 * (a * a) * r + 4 * (m * m)) = 16 * a * a * m * r + 4 * (m * m * m) := by grind
          rw [this, e1]
          grind
        have e3 := (Int.mul_eq_zero.mp e2).resolve_left (by omega)
        have m2 := sq_pos (show m ≠ 0 by omega)
        have : 0 ≤ 16 * (a * a) * r := mul_nn (by omega) h3
        omega
    · rintro (⟨h1, _⟩ | ⟨h1, _⟩) <;> omega
  · -- m is 0
    subst hm
    have n0 : n = 0 := by
      have := H.no
      rw [Int.zero_mul] at this
      exact (Int.mul_eq_zero.mp this.symm).elim id id
    subst n0
    have B0 : B = 0 := by rw [hB]; grind
    subst B0
    have e0 : b * b - 8 * a * z = s := by omega
    have g3 : 2 * a * d = b * z := by have := H.hn; omega
    have f2 : 4 * a * e = z * z - o := by have := H.ho; omega
    have g5 : 8 * a * z = b * b - s := by omega
    have q4 : 4 * a * q = 2 * b * s := by have := N.q4; omega
    have k1 : k = b * s := by have := N.k1; omega
    have d16 : 16 * a * a * d = b * b * b - b * s := by have := N.d16; omega
    have r16 : 16 * a * a * r = (b * b - s) * s + 64 * (a * a) * o := by
      have f : 16 * a * a * r = 8 * a * b * (2 * a * d) - 64 * a * a * (4 * a * e) := by rw [hr]; grind
      have f' : 8 * a * b * (b * z) - 64 * a * a * (z * z - o) = b * b * (8 * a * z) - (8 * a * z) * (8 * a * z) + 64 * (a * a) * o := by grind
      rw [f, g3, f2, f', g5]
      grind
    have u1 : u = -(16 * a * s * o) := by
      have f : 4 * a * u = (8 * a * c) * (s * s) - (16 * a * a * r) * s - k * (4 * a * q) := by rw [hu]; grind
      rw [N.c8, r16, q4, k1] at f
      have f2 : 4 * a * (u + 16 * a * s * o) = 0 := by
        rw [Int.mul_add, f]
        grind
      have := (Int.mul_eq_zero.mp f2).resolve_left (by omega)
      omega
    have v1 : v = -(4 * b * s * o) := by
      have f : 16 * a * a * v = s * s * (16 * a * a * d) - k * (16 * a * a * r) := by rw [hv]; grind
      rw [d16, r16, k1] at f
      have f2 : 16 * a * a * (v + 4 * b * s * o) = 0 := by
        rw [Int.mul_add, f]
        grind
      have := (Int.mul_eq_zero.mp f2).resolve_left (by
        have : 16 * a * a = 16 * (a * a) := Int.mul_assoc _ _ _
        omega)
      omega
    have w1 : w = 16 * ((s * o) * (s * o)) * (64 * (a * a) * o - s * s) := by
      have f : 16 * a * a * w = (u * u) * (16 * a * a * r) - u * (4 * a * q) * (4 * a * v) + 16 * a * a * s * (v * v) := by rw [hw]; grind
      rw [r16, q4, u1, v1] at f
      have f2 : 16 * a * a * (w - 16 * ((s * o) * (s * o)) * (64 * (a * a) * o - s * s)) = 0 := by
        rw [Int.mul_sub, f]
        grind
      have := (Int.mul_eq_zero.mp f2).resolve_left (by
        have : 16 * a * a = 16 * (a * a) := Int.mul_assoc _ _ _
        omega)
      omega
    have au : a * u = -(16 * (a * a) * (s * o)) := by rw [u1]; grind
    rw [e0, au]
    rcases Int.lt_trichotomy s 0 with s0 | s0 | s0
    · rcases Int.lt_trichotomy o 0 with o0 | o0 | o0
      · have t1 : 0 < s * o := Int.mul_pos_of_neg_of_neg s0 o0
        have t2 : 0 < 16 * (a * a) * (s * o) := Int.mul_pos (by omega) t1
        omega
      · subst o0
        have := sq_pos (show s ≠ 0 by omega)
        simp only [Int.mul_zero]
        omega
      · have t1 : s * o < 0 := Int.mul_neg_of_neg_of_pos s0 o0
        have t2 : 16 * (a * a) * (s * o) < 0 := Int.mul_neg_of_pos_of_neg (by omega) t1
        have t3 : 0 < 16 * ((s * o) * (s * o)) := by have := sq_pos (show s * o ≠ 0 by omega); omega
        have t4 := sgn_same (x := w) (y := 64 * (a * a) * o - s * s) (k := 1) (l := 16 * ((s * o) * (s * o))) (by decide) t3 (by rw [Int.one_mul, w1])
        omega
    · subst s0
      have q0 : q = 0 := by
        have t : 4 * a * q = 0 := by omega
        exact (Int.mul_eq_zero.mp t).resolve_left (by omega)
      have t4 := sgn_same (x := r) (y := o) (k := 16 * a * a) (l := 64 * (a * a)) (by have : 16 * a * a = 16 * (a * a) := Int.mul_assoc _ _ _; omega) (by omega) (by rw [r16]; grind)
      omega
    · rcases Int.lt_trichotomy o 0 with o0 | o0 | o0
      · have t1 : s * o < 0 := Int.mul_neg_of_pos_of_neg s0 o0
        have t2 : 16 * (a * a) * (s * o) < 0 := Int.mul_neg_of_pos_of_neg (by omega) t1
        have t3 : 0 < 16 * ((s * o) * (s * o)) := by have := sq_pos (show s * o ≠ 0 by omega); omega
        have t5 : 64 * (a * a) * o < 0 := Int.mul_neg_of_pos_of_neg (by omega) o0
        have t6 := sq_nn s
        have t4 := sgn_same (x := w) (y := 64 * (a * a) * o - s * s) (k := 1) (l := 16 * ((s * o) * (s * o))) (by decide) t3 (by rw [Int.one_mul, w1])
        omega
      · subst o0
        refine ⟨fun _ => .inr ⟨rfl, by decide, .inl (by omega)⟩, fun _ => .inl ⟨s0, .inl (by rw [Int.mul_zero, Int.mul_zero]; decide)⟩⟩
      · have t1 : 0 < s * o := Int.mul_pos s0 o0
        have t2 : 0 < 16 * (a * a) * (s * o) := Int.mul_pos (by omega) t1
        omega
  · -- m above 0
    have hY := y_is H hs hB
    have Rr : B * B + 8 * (m * m * m) - 4 * (m * m) * s ≠ 0 := by
      rw [hY]
      exact Int.mul_ne_zero (by omega) (hR (by omega))
    have m3 : 0 < m * m * m := Int.mul_pos (Int.mul_pos hm hm) hm
    have sw : s ≠ 0 → (0 < w ↔ 0 < -(PP s m B)) ∧ (w < 0 ↔ -(PP s m B) < 0) := fun s0 =>
      sgn_same (k := 256 * (a * a * a * a) * (m * m * m)) (l := (s * (B * B + 8 * (m * m * m) - 4 * (m * m) * s)) * (s * (B * B + 8 * (m * m * m) - 4 * (m * m) * s))) (Int.mul_pos (by omega) m3) (sq_pos (Int.mul_ne_zero s0 Rr)) (by rw [Ew, Int.mul_neg, Int.mul_comm])
    have su : (0 < a * u ↔ 0 < UU s m B) ∧ (a * u < 0 ↔ UU s m B < 0) :=
      sgn_same (k := 4 * m) (l := 1) (by omega) (by decide) (by rw [Eu, Int.one_mul])
    have eP : m * ((s - m) * (s - m)) - B * B = PP s m B := rfl
    constructor
    · rintro (⟨h1, h2⟩ | ⟨h1, h2, h3⟩ | ⟨h1, h2, h3⟩ | ⟨h1, h2, h3⟩)
      · refine .inl ⟨hm, ?_⟩
        have sw := sw (by omega)
        rcases h2 with h2 | h2
        · by_cases hA : 0 ≤ s - m
          · exact .inl hA
          · exfalso
            have := U3 (B := B) hm (by omega) h1
            omega
        · right
          omega
      · refine .inl ⟨hm, .inr ?_⟩
        have sw := sw (by omega)
        omega
      · refine .inl ⟨hm, .inr ?_⟩
        subst h1
        have Eh := h_is N hh
        have Rr' : B * B + 8 * (m * m * m) ≠ 0 := by
          intro z
          refine Rr ?_
          omega
        have t := sgn_same (x := a * h) (y := m * m * m - B * B) (k := 1024 * (a * a * a * a) * (m * m * m)) (l := (B * B + 8 * (m * m * m)) * (B * B + 8 * (m * m * m))) (Int.mul_pos (by omega) m3) (sq_pos Rr') (by rw [Eh, Int.mul_comm])
        have e : m * ((0 - m) * (0 - m)) = m * m * m := by grind
        rw [e]
        omega
      · exfalso
        subst h1
        have Bq : B = 0 := by
          have := N.q4
          rw [h2] at this
          omega
        subst Bq
        have e1 := N.r16
        have e2 : m * (16 * (a * a) * r + 4 * (m * m)) = 0 := by
          have : m * (16 * (a * a) * r + 4 * (m * m)) = 16 * a * a * m * r + 4 * (m * m * m) := by grind
          rw [this, e1]
          grind
        have e3 := (Int.mul_eq_zero.mp e2).resolve_left (by omega)
        have m2 := sq_pos (show m ≠ 0 by omega)
        have : 0 ≤ 16 * (a * a) * r := mul_nn (by omega) h3
        omega
    · rintro (⟨_, h1⟩ | ⟨h1, _⟩)
      · by_cases hP : PP s m B ≤ 0
        · rcases Int.lt_trichotomy s 0 with s0 | s0 | s0
          · have sw := sw (by omega)
            have := U1 hm hP s0
            exact .inr (.inl ⟨s0, su.1.mpr this, by omega⟩)
          · refine .inr (.inr (.inl ⟨s0, ?_, ?_⟩))
            · intro q0
              subst s0
              have Bq : B = 0 := by
                have := N.q4
                rw [q0] at this
                omega
              subst Bq
              have e : m * ((0 - m) * (0 - m)) = m * m * m := by grind
              have hP : m * ((0 - m) * (0 - m)) - 0 * 0 ≤ 0 := hP
              rw [e] at hP
              omega
            · subst s0
              have Eh := h_is N hh
              have Rr' : B * B + 8 * (m * m * m) ≠ 0 := by
                intro z
                refine Rr ?_
                omega
              have t := sgn_same (x := a * h) (y := m * m * m - B * B) (k := 1024 * (a * a * a * a) * (m * m * m)) (l := (B * B + 8 * (m * m * m)) * (B * B + 8 * (m * m * m))) (Int.mul_pos (by omega) m3) (sq_pos Rr') (by rw [Eh, Int.mul_comm])
              have e : m * ((0 - m) * (0 - m)) = m * m * m := by grind
              have hP : m * ((0 - m) * (0 - m)) - B * B ≤ 0 := hP
              rw [e] at hP
              omega
          · have sw := sw (by omega)
            exact .inl ⟨s0, .inr (by omega)⟩
        · have hA : 0 ≤ s - m := by omega
          have := U2 (B := B) hm (by omega) hA
          exact .inl ⟨by omega, .inl (by omega)⟩
      · omega
end
end Qt

set_option linter.all false
namespace Qt
open Se04 (changes real)
open Cp (sgI absI)
theorem H4 (e d c b a x y : Int) : Rt.H [e, d, c, b, a] x y = a * (x * x * x * x) + b * (x * x * x) * y + c * (x * x) * (y * y) + d * x * (y * y * y) + e * (y * y * y * y) := by
  show e * y ^ 4 + x * (d * y ^ 3 + x * (c * y ^ 2 + x * (b * y ^ 1 + x * (a * y ^ 0 + x * 0)))) = _
  grind
theorem H3 (k0 k1 k2 x y : Int) : Rt.H [k0, k1, k2, 1] x y = x * x * x + k2 * (x * x) * y + k1 * x * (y * y) + k0 * (y * y * y) := by
  show k0 * y ^ 3 + x * (k1 * y ^ 2 + x * (k2 * y ^ 1 + x * (1 * y ^ 0 + x * 0))) = _
  grind
/-- **real, as the program asks it** -/
theorem real_zero {a b c d e z : Int} (ha : a ≠ 0) (hz : (4 * e * c * a - e * b * b - d * d * a) + (d * b - 4 * e * a) * z + (-c) * (z * z) + z * z * z = 0) (hno : ¬ ∃ x y : Int, 0 < y ∧ Rt.H [e, d, c, b, a] x y = 0) :
    real [e, d, c, b, a] = zeroI a b c d e z := by
  have P := parted ha hz
  have hR := fun (m n o : Int) (P : Parted a b c d e z m n o) => show m ≠ 0 → 2 * a * (n * n) - b * m * n + m * m * z ≠ 0 from fun m0 y0 => by
    have e1 := p_is P
    rw [y0, Int.mul_zero] at e1
    have e2 := (Int.mul_eq_zero.mp e1).resolve_left (by omega)
    rcases Int.lt_trichotomy m 0 with hm | hm | hm
    · refine hno ⟨n, -m, by omega, ?_⟩
      rw [H4, ← e2]
      grind
    · exact m0 hm
    · refine hno ⟨-n, m, hm, ?_⟩
      rw [H4, ← e2]
      grind
  have key := real_part P (hR _ _ _ P)
  rw [Bool.eq_iff_iff, key]
  unfold zeroI
  dsimp only
  generalize b * b - 4 * a * c + 4 * a * z = m
  generalize b * z - 2 * a * d = n
  generalize z * z - 4 * a * e = o
  by_cases hm : 0 < m
  · rw [if_pos hm, decide_eq_true_eq, side1_iff (absI_nn _), absI_sq]
    generalize b * b + m - 8 * a * z = A
    generalize (8 * a * n - 2 * b * m) * (8 * a * n - 2 * b * m) = B2
    have e1 : 0 ≤ m * A ↔ 0 ≤ A := by
      constructor
      · intro q
        by_cases hA : A < 0
        · have := Int.mul_neg_of_pos_of_neg hm hA
          omega
        · omega
      · intro q
        exact mul_nn (by omega) q
    have e2 : m * A * (m * A) ≤ B2 * m ↔ m * (A * A) ≤ B2 := by
      have : m * A * (m * A) = (m * (A * A)) * m := by grind
      rw [this]
      exact Int.mul_le_mul_right hm
    rw [e1, e2]
    constructor
    · rintro (⟨_, h⟩ | ⟨h, _⟩)
      · exact h
      · omega
    · exact fun h => .inl ⟨hm, h⟩
  · rw [if_neg hm]
    by_cases h2 : m = 0 ∧ 0 ≤ o
    · rw [if_pos h2, decide_eq_true_eq, side1_iff (absI_nn _), absI_sq]
      have e : 8 * a * (8 * a) * o = 64 * (a * a) * o := by grind
      rw [e]
      constructor
      · rintro (⟨h, _⟩ | ⟨_, _, h⟩)
        · omega
        · exact h
      · exact fun h => .inr ⟨h2.1, h2.2, h⟩
    · rw [if_neg h2]
      constructor
      · rintro (⟨h, _⟩ | ⟨h3, h4, _⟩)
        · omega
        · exact (h2 ⟨h3, h4⟩).elim
      · intro h
        cases h
/-! ### the search for a fraction -/
def divTo (n : Int) (i : Nat) : List Int := ((List.range i).map fun (j : Nat) => (1 : Int) + (j : Int)).filter fun t => n % t == 0
def divI (n : Int) : List Int := divTo n (min n.natAbs 4474)
theorem divTo_succ (n : Int) (i : Nat) : divTo n (i + 1) = divTo n i ++ if n % (1 + (i : Int)) == 0 then [1 + (i : Int)] else [] := by
  unfold divTo
  rw [List.range_succ, List.map_append, List.filter_append]
  congr 1
  show List.filter (fun t => n % t == 0) [1 + (i : Int)] = _
  rw [List.filter_cons]
  rfl
theorem divTo_len (n : Int) (i : Nat) : (divTo n i).length ≤ i := by
  unfold divTo
  refine Nat.le_trans (List.length_filter_le _ _) ?_
  rw [List.length_map, List.length_range]
  exact Nat.le_refl _
theorem mem_divTo {n t : Int} {i : Nat} : t ∈ divTo n i ↔ 1 ≤ t ∧ t ≤ (i : Int) ∧ n % t = 0 := by
  unfold divTo
  rw [List.mem_filter, List.mem_map, beq_iff_eq]
  constructor
  · rintro ⟨⟨j, hj, rfl⟩, h⟩
    have := List.mem_range.mp hj
    exact ⟨by omega, by omega, h⟩
  · rintro ⟨h1, h2, h3⟩
    exact ⟨⟨(t - 1).toNat, List.mem_range.mpr (by omega), by omega⟩, h3⟩
theorem mem_divI {n t : Int} : t ∈ divI n ↔ 1 ≤ t ∧ t ≤ (n.natAbs : Int) ∧ t ≤ 4474 ∧ n % t = 0 := by
  unfold divI
  rw [mem_divTo]
  omega
/-- what the search gives back -/
def FracOk (p : List Int) : Option (Int × Int) → Prop
  | some (a, b) => Rt.H p a b = 0 ∧ 1 ≤ b ∧ p.getLastD 0 % b = 0 ∧ a.natAbs ≤ 4474
  | none => p.getD 0 0 ≠ 0 ∧ ∀ a b, a ∈ divI (p.getD 0 0) → b ∈ divI (p.getLastD 0) → Rt.H p a b ≠ 0 ∧ Rt.H p (-a) b ≠ 0
theorem last_same (p : List Int) (hp : p ≠ []) : p.getLastD 1 = p.getLastD 0 := by
  cases p with
  | nil => exact (hp rfl).elim
  | cons x l => rfl
theorem divs_in {n : Int} {a : Nat} (hn : n.natAbs ≤ 1000) (h : a ∈ Se04.divisors n) : (a : Int) ∈ divI n := by
  unfold Se04.divisors at h
  rw [List.mem_filter, Bool.and_eq_true, decide_eq_true_eq, beq_iff_eq, List.mem_range] at h
  obtain ⟨h1, h2, h3⟩ := h
  refine mem_divI.mpr ⟨by omega, by omega, by omega, ?_⟩
  refine Int.emod_eq_zero_of_dvd ?_
  exact Int.natAbs_dvd_natAbs.mp (Nat.dvd_of_mod_eq_zero h3)
theorem frac_rational {p : List Int} {r : Option (Int × Int)} (hp : p ≠ []) (hl : p.getLastD 0 ≠ 0) (h0 : (p.getD 0 0).natAbs ≤ 1000) (h1 : (p.getLastD 0).natAbs ≤ 1000) (h : FracOk p r) : Se04.rational p = r.isSome := by
  cases r with
  | some ab =>
    obtain ⟨a, b⟩ := ab
    obtain ⟨g1, g2, _⟩ := h
    refine (Rt.rational_iff p hp (by rw [last_same p hp]; exact hl)).mpr ⟨a, b, by omega, ?_⟩
    rw [Rt.value_H]
    exact g1
  | none =>
    obtain ⟨g1, g2⟩ := h
    show Se04.rational p = false
    rw [Bool.eq_false_iff]
    intro q
    unfold Se04.rational at q
    rw [Bool.or_eq_true, beq_iff_eq, List.any_eq_true] at q
    rcases q with q | ⟨a, ha, q⟩
    · exact g1 q
    · rw [List.any_eq_true] at q
      obtain ⟨b, hb, q⟩ := q
      rw [last_same p hp] at hb
      have := g2 _ _ (divs_in h0 ha) (divs_in h1 hb)
      rw [Bool.or_eq_true, beq_iff_eq, beq_iff_eq, Rt.value_H, Rt.value_H] at q
      exact q.elim this.1 this.2
theorem cubic_H (k0 k1 k2 z : Int) : Rt.H [k0, k1, k2, 1] z 1 = k0 + k1 * z + k2 * (z * z) + z * z * z := by
  rw [← Rt.value_H, Rt.cubic_value]
theorem cubic_near {k0 k1 k2 z : Int} (h0 : k0.natAbs ≤ 6000000000) (h1 : k1.natAbs ≤ 5000000) (h2 : k2.natAbs ≤ 1000) (h : k0 + k1 * z + k2 * (z * z) + z * z * z = 0) : z.natAbs ≤ 4474 := by
  by_cases q : z.natAbs ≤ 4474
  · exact q
  · have p : 4475 ≤ z.natAbs := by omega
    have e : (z * z * z).natAbs = (-(k0 + k1 * z + k2 * (z * z))).natAbs := by congr 1; omega
    have l1 : (-(k0 + k1 * z + k2 * (z * z))).natAbs ≤ k0.natAbs + k1.natAbs * z.natAbs + k2.natAbs * (z.natAbs * z.natAbs) := by
      rw [Int.natAbs_neg]
      refine Nat.le_trans (Int.natAbs_add_le _ _) ?_
      refine Nat.add_le_add (Nat.le_trans (Int.natAbs_add_le _ _) ?_) ?_
      · rw [Int.natAbs_mul]
        exact Nat.le_refl _
      · rw [Int.natAbs_mul, Int.natAbs_mul]
        exact Nat.le_refl _
    rw [← e, Int.natAbs_mul, Int.natAbs_mul] at l1
    generalize z.natAbs = w at p l1
    have m1 : k1.natAbs * w ≤ 5000000 * w := Nat.mul_le_mul_right _ h1
    have m2 : k2.natAbs * (w * w) ≤ 1000 * (w * w) := Nat.mul_le_mul_right _ h2
    have m3 : 4475 * w ≤ w * w := Nat.mul_le_mul_right _ p
    have m4 : 4475 * (w * w) ≤ w * (w * w) := Nat.mul_le_mul_right _ p
    have m5 : w * w * w = w * (w * w) := Nat.mul_assoc _ _ _
    rw [m5] at l1
    generalize w * (w * w) = c at l1 m4
    generalize w * w = s at *
    omega
theorem frac_whole {k0 k1 k2 z y : Int} (h : FracOk [k0, k1, k2, 1] (some (z, y))) : k0 + k1 * z + k2 * (z * z) + z * z * z = 0 ∧ z.natAbs ≤ 4474 := by
  obtain ⟨g1, g2, g3, g4⟩ := h
  have g3 : (1 : Int) % y = 0 := g3
  have y1 : y = 1 := by
    by_cases q : y = 1
    · exact q
    · have := Int.emod_eq_of_lt (a := 1) (b := y) (by decide) (by omega)
      omega
  subst y1
  rw [cubic_H] at g1
  exact ⟨g1, g4⟩
theorem frac_no_whole {k0 k1 k2 : Int} (h0 : k0.natAbs ≤ 6000000000) (h1 : k1.natAbs ≤ 5000000) (h2 : k2.natAbs ≤ 1000) (h : FracOk [k0, k1, k2, 1] none) : Se04.wholeRoot [k0, k1, k2, 1] = false := by
  rw [Bool.eq_false_iff]
  intro q
  obtain ⟨z, hz⟩ := (Rt.whole_iff h0 h1 h2).mp q
  obtain ⟨g1, g2⟩ := h
  have g1 : k0 ≠ 0 := g1
  have near := cubic_near h0 h1 h2 hz
  have z0 : z ≠ 0 := fun q => by subst q; simp at hz; exact g1 hz
  have dv : z ∣ k0 := ⟨-(k1 + k2 * z + z * z), by grind⟩
  have le : z.natAbs ≤ k0.natAbs := Nat.le_of_dvd (by omega) (Int.natAbs_dvd_natAbs.mpr dv)
  have one : (1 : Int) ∈ divI ([k0, k1, k2, 1].getLastD 0) := by
    show (1 : Int) ∈ divI 1
    exact mem_divI.mpr (by decide)
  have mm : ((z.natAbs : Nat) : Int) ∈ divI ([k0, k1, k2, 1].getD 0 0) := by
    show ((z.natAbs : Nat) : Int) ∈ divI k0
    exact mem_divI.mpr ⟨by omega, by omega, by omega, Int.emod_eq_zero_of_dvd (Int.natAbs_dvd.mpr dv)⟩
  have := g2 _ _ mm one
  rw [← cubic_H] at hz
  by_cases s : 0 ≤ z
  · rw [show ((z.natAbs : Nat) : Int) = z by omega] at this
    exact this.1 hz
  · rw [show -((z.natAbs : Nat) : Int) = z by omega] at this
    exact this.2 hz
/-! ### the call -/
/-- what the document asks of p -/
def okI (p : List Int) : Bool := (decide (p.length = 4) || decide (p.length = 5)) && (Sf68.small 1000 p && decide (p.getLastD 0 ≠ 0))
theorem ok_eq (p : List Int) : Sf68.okRoot p = okI p := by
  unfold Sf68.okRoot okI Sf68.PART
  have e1 : (p.length == 4) = decide (p.length = 4) := rfl
  have e2 : (p.length == 5) = decide (p.length = 5) := rfl
  rw [e1, e2]
  cases p with
  | nil => rfl
  | cons x l =>
    congr 1
    have e3 : (x :: l).getLast? = some ((x :: l).getLastD 0) := by
      rw [List.getLastD_eq_getLast?, List.getLast?_cons]
      rfl
    rw [e3]
    congr 1
    rw [Bool.eq_iff_iff, decide_eq_true_eq, bne_iff_ne]
    constructor
    · intro q z
      exact q (by rw [z])
    · intro q z
      exact q (Option.some.inj z)
theorem root_is (p : List Int) : PySe04.root p = if okI p = false then [-2] else if Se04.reached p = true then [1] else [0] := by
  show (let y := Se04.does (.root p); y.value :: y.out) = _
  unfold Se04.does
  dsimp only
  rw [ok_eq]
  cases okI p with
  | false => rfl
  | true =>
    rw [if_neg Bool.noConfusion, if_neg Bool.noConfusion]
    cases Se04.reached p <;> rfl
/-- p that is allowed -/
structure OkP (p : List Int) : Prop where
  len : p.length = 4 ∨ p.length = 5
  sm : ∀ i, (p.getD i 0).natAbs ≤ 1000
  last : p.getLastD 0 ≠ 0
theorem getD_small {p : List Int} (h : Sf68.small 1000 p = true) (i : Nat) : (p.getD i 0).natAbs ≤ 1000 := by
  rw [List.getD_eq_getElem?_getD]
  cases e : p[i]? with
  | none => decide
  | some z =>
    have := List.all_eq_true.mp h z (List.mem_of_getElem? e)
    exact of_decide_eq_true this
theorem okP {p : List Int} (h : okI p = true) : OkP p := by
  unfold okI at h
  rw [Bool.and_eq_true, Bool.and_eq_true, Bool.or_eq_true, decide_eq_true_eq, decide_eq_true_eq, decide_eq_true_eq] at h
  exact ⟨h.1, getD_small h.2.1, h.2.2⟩
theorem OkP.ne {p : List Int} (h : OkP p) : p ≠ [] := fun q => by
  have := h.len
  rw [q] at this
  simp at this
theorem OkP.last_at {p : List Int} (h : OkP p) : p.getLastD 0 = p.getD (p.length - 1) 0 := by
  rw [List.getLastD_eq_getLast?, List.getLast?_eq_getElem?, List.getD_eq_getElem?_getD]
theorem OkP.rational {p : List Int} {r : Option (Int × Int)} (h : OkP p) (hr : FracOk p r) : Se04.rational p = r.isSome :=
  frac_rational h.ne h.last (h.sm 0) (by rw [h.last_at]; exact h.sm _) hr
theorem OkP.found {p : List Int} {ab : Int × Int} (h : OkP p) (hr : FracOk p (some ab)) : Se04.reached p = true := by
  unfold Se04.reached
  rw [h.rational hr]
  rfl
theorem OkP.cubic {p : List Int} (h : OkP p) (hr : FracOk p none) (h4 : p.length = 4) : Se04.reached p = false := by
  unfold Se04.reached
  rw [h.rational hr, h4]
  rfl
/-- a quartic's five numbers -/
theorem OkP.five {p : List Int} (h : OkP p) (h5 : p.length = 5) : ∃ e d c b a, p = [e, d, c, b, a] ∧ a ≠ 0 ∧ e.natAbs ≤ 1000 ∧ d.natAbs ≤ 1000 ∧ c.natAbs ≤ 1000 ∧ b.natAbs ≤ 1000 ∧ a.natAbs ≤ 1000 := by
  match p, h5, h with
  | [e, d, c, b, a], _, h => exact ⟨e, d, c, b, a, rfl, h.last, h.sm 0, h.sm 1, h.sm 2, h.sm 3, h.sm 4⟩
def resI (a b c d e : Int) : List Int := [4 * e * c * a - e * b * b - d * d * a, d * b - 4 * e * a, -c, 1]
theorem res_is (a b c d e : Int) : Se04.cubicOf [e, d, c, b, a] = resI a b c d e := by
  show [-(b * b * e - 4 * a * c * e + a * d * d), b * d - 4 * a * e, -c, 1] = [4 * e * c * a - e * b * b - d * d * a, d * b - 4 * e * a, -c, 1]
  have e1 : -(b * b * e - 4 * a * c * e + a * d * d) = 4 * e * c * a - e * b * b - d * d * a := by grind
  have e2 : b * d - 4 * a * e = d * b - 4 * e * a := by grind
  rw [e1, e2]
theorem abs2 {x y : Int} {m n : Nat} (hx : x.natAbs ≤ m) (hy : y.natAbs ≤ n) : (x * y).natAbs ≤ m * n := by
  rw [Int.natAbs_mul]
  exact Nat.mul_le_mul hx hy
theorem res_small {a b c d e : Int} (he : e.natAbs ≤ 1000) (hd : d.natAbs ≤ 1000) (hc : c.natAbs ≤ 1000) (hb : b.natAbs ≤ 1000) (ha : a.natAbs ≤ 1000) :
    (4 * e * c * a - e * b * b - d * d * a).natAbs ≤ 6000000000 ∧ (d * b - 4 * e * a).natAbs ≤ 5000000 ∧ (-c).natAbs ≤ 1000 := by
  have e4 : (4 * e).natAbs ≤ 4000 := by omega
  have t1 := abs2 (abs2 e4 hc) ha
  have t2 := abs2 (abs2 he hb) hb
  have t3 := abs2 (abs2 hd hd) ha
  have t4 := abs2 hd hb
  have t5 := abs2 e4 ha
  refine ⟨?_, ?_, ?_⟩
  · generalize 4 * e * c * a = x1 at *
    generalize e * b * b = x2 at *
    generalize d * d * a = x3 at *
    omega
  · generalize d * b = x1 at *
    generalize 4 * e * a = x2 at *
    omega
  · omega
theorem quartic_no {a b c d e : Int} (h : OkP [e, d, c, b, a]) (hr : FracOk [e, d, c, b, a] none) (h2 : FracOk (resI a b c d e) none) : Se04.reached [e, d, c, b, a] = false := by
  unfold Se04.reached
  rw [h.rational hr, res_is]
  obtain ⟨s0, s1, s2⟩ := res_small (e := e) (d := d) (c := c) (b := b) (a := a) (h.sm 0) (h.sm 1) (h.sm 2) (h.sm 3) (h.sm 4)
  unfold resI at h2 ⊢
  rw [frac_no_whole s0 s1 s2 h2]
  simp
theorem quartic_at {a b c d e z y : Int} (h : OkP [e, d, c, b, a]) (hr : FracOk [e, d, c, b, a] none) (h2 : FracOk (resI a b c d e) (some (z, y))) : Se04.reached [e, d, c, b, a] = zeroI a b c d e z ∧ z.natAbs ≤ 4474 := by
  obtain ⟨hz, near⟩ := frac_whole h2
  refine ⟨?_, near⟩
  have hrat := h.rational hr
  obtain ⟨s0, s1, s2⟩ := res_small (h.sm 0) (h.sm 1) (h.sm 2) (h.sm 3) (h.sm 4)
  have hw : Se04.wholeRoot (resI a b c d e) = true := (Rt.whole_iff s0 s1 s2).mpr ⟨z, hz⟩
  have hno : ¬ ∃ x y : Int, 0 < y ∧ Rt.H [e, d, c, b, a] x y = 0 := fun ⟨x, y, hy, q⟩ => by
    have := (Rt.rational_iff [e, d, c, b, a] (by simp) h.last).mpr ⟨x, y, hy, by rw [Rt.value_H]; exact q⟩
    rw [hrat] at this
    cases this
  have ha : a ≠ 0 := h.last
  unfold Se04.reached
  rw [hrat, res_is, hw, real_zero ha hz hno]
  simp
end Qt
#print axioms Qt.quartic_at
#print axioms Qt.root_is

/-! Rules of one's own over the layer: slices, halves, new lists of whole numbers, each with "all that was tracked is as it was". -/
set_option Elab.async false
set_option linter.all false
set_option maxRecDepth 100000
set_option maxHeartbeats 4000000
namespace Cp
open PySem PySem.Spec PyProof.Rows L2
/-! ### heaps and tests -/
theorem same_upd {H H1 : Hp} {p : Addr} {o : HO} (s : Same H H1) (hp : H1 p = Option.none) : Same H (upd H1 p o) := fun b u e => by
  rw [upd_ne (ne_of_none (s b u e) hp)]
  exact s b u e
theorem iteD {c A B : Prop} [Decidable c] (hc : c) (h : A) : if decide c = true then A else B := by
  rw [decide_eq_true hc]
  exact iteT h
theorem iteDN {c A B : Prop} [Decidable c] (hc : ¬ c) (h : B) : if decide c = true then A else B := by
  rw [decide_eq_false hc]
  exact iteF h
/-- a list of whole numbers that may be read at a -/
abbrev InL (K : PySem.W.Frag) (H : Hp) (a : Addr) (xs : List Int) : Prop := SqL K H a (xs.map V.int)
theorem InL.of {K : PySem.W.Frag} {H : Hp} {a : Addr} {xs : List Int} (h : H a = some (.lst (xs.map V.int))) : InL K H a xs := SqL.of h
theorem ints_at {xs : List Int} {i : Nat} {v : V} (h : (xs.map V.int)[i]? = some v) : ∃ z, xs[i]? = some z ∧ v = V.int z := by
  rw [List.getElem?_map] at h
  cases e : xs[i]? with
  | none =>
    rw [e] at h
    cases h
  | some z =>
    rw [e] at h
    exact ⟨z, rfl, (Option.some.inj h).symm⟩
theorem int_at {xs : List Int} {i : Nat} (h : i < xs.length) : (xs.map V.int)[i]? = some (V.int (xs.getD i 0)) := by
  rw [List.getElem?_map, List.getD_eq_getElem?_getD, List.getElem?_eq_getElem h]
  rfl
theorem line_lt {n : Nat} (h : n ≤ 1000) : n < sizeLine := small1000 h
theorem take_snoc {α : Type} : ∀ {l : List α} {i : Nat} {x : α}, l[i]? = some x → l.take (i + 1) = l.take i ++ [x]
  | [], i, x, h => by simp at h
  | a :: l, 0, x, h => by
    have e : a = x := Option.some.inj h
    subst e
    rfl
  | a :: l, i + 1, x, h => by
    have ih := take_snoc (l := l) (i := i) (x := x) h
    show a :: l.take (i + 1) = a :: l.take i ++ [x]
    rw [ih]
    rfl
/-! ### whole numbers -/
theorem op_mulB {X : Cx} : OpR X (binaryOp .Mult) (rI IntMulOk fun i j => .int (i * j)) := opI fun _ _ _ _ _ _ _ hc q => mul_int q hc
theorem mul_ok {a b : Int} {m n : Nat} (ha : a.natAbs < 2 ^ m) (hb : b.natAbs < 2 ^ n) (h : m + n ≤ 1000000) : IntMulOk a b :=
  IntMulOk.of_le (intBits_le_iff.mpr ha) (intBits_le_iff.mpr hb) (by omega)
/-! ### slices -/
theorem cut_lo (xs : List Int) {n : Nat} (h : n ≤ xs.length) : cutV (xs.map V.int) Option.none (some (n : Int)) = (xs.take n).map V.int := by
  unfold cutV
  rw [HT.sIx_none, HT.sIx_nat, List.length_map, Nat.min_eq_left h, List.drop_zero, Nat.sub_zero, List.map_take]
theorem cut_hi (xs : List Int) {n : Nat} (h : n ≤ xs.length) : cutV (xs.map V.int) (some (n : Int)) Option.none = (xs.drop n).map V.int := by
  unfold cutV
  rw [HT.sIx_none, HT.sIx_nat, List.length_map, Nat.min_eq_left h, List.take_of_length_le (by rw [List.length_drop, List.length_map]; exact Nat.le_refl _), List.map_drop]
theorem cut_rad (ds : List Int) {n : Nat} (h0 : 1 ≤ n) (h : 2 * n - 1 ≤ ds.length) : cutV (ds.map V.int) (some ((n : Int) - 1)) (some (2 * (n : Int) - 1)) = (radI ds n).map V.int := by
  have e1 : (n : Int) - 1 = ((n - 1 : Nat) : Int) := by omega
  have e2 : 2 * (n : Int) - 1 = ((2 * n - 1 : Nat) : Int) := by omega
  unfold cutV radI
  rw [e1, e2, HT.sIx_nat, HT.sIx_nat, List.length_map, Nat.min_eq_left h, Nat.min_eq_left (show n - 1 ≤ ds.length by omega), List.map_take, List.map_drop]
  congr 1
  omega
section
variable {X : Cx}
theorem pe_weak {e : Expr} {t t' : TE} (h : PE X e t) (k : ∀ σ H Q, t' σ H Q → t σ H Q) : PE X e t' := fun pins s σ H Q I q => h pins s σ H Q I (k σ H Q q)
/-- what makes a new list of whole numbers: the rest goes on in any heap that has it and all that was there -/
abbrev NewL (H : Hp) (zs : List Int) (Q : VK) : Prop := ∀ (H' : Hp) (p : Addr), Same H H' → H' p = some (.lst (zs.map V.int)) → Q (.ref p) H'
/-- x[:h], x in slot i, h in slot j -/
def tLo (K : PySem.W.Frag) (i j : Nat) : TE := fun σ H Q => ∃ (a : Addr) (xs : List Int) (n : Nat), σ[i]? = some (some (.ref a)) ∧ σ[j]? = some (some (.int (n : Int))) ∧ InL K H a xs ∧ n ≤ xs.length ∧ NewL H (xs.take n) Q
def tHi (K : PySem.W.Frag) (i j : Nat) : TE := fun σ H Q => ∃ (a : Addr) (xs : List Int) (n : Nat), σ[i]? = some (some (.ref a)) ∧ σ[j]? = some (some (.int (n : Int))) ∧ InL K H a xs ∧ n ≤ xs.length ∧ NewL H (xs.drop n) Q
theorem pe_lo {e f : Expr} {p2 pos : Pos} {i j : Nat} (he : PE X e (tVar i)) (hf : PE X f (tVar j)) : PE X (.Subscript e (.Slice Option.none (some f) Option.none p2) pos) (tLo X.K i j) :=
  pe_weak (pe_slice sl_list he po_none (po_some hf)) fun σ H Q h => by
    obtain ⟨a, xs, n, e1, e2, ha, hn, k⟩ := h
    exact ⟨_, e1, _, e2, _, rfl, a, _, rfl, ha, fun p hp => k _ p (same_upd (Same.refl H) hp) (by rw [upd_same, cut_lo xs hn])⟩
theorem pe_hi {e f : Expr} {p2 pos : Pos} {i j : Nat} (he : PE X e (tVar i)) (hf : PE X f (tVar j)) : PE X (.Subscript e (.Slice (some f) Option.none Option.none p2) pos) (tHi X.K i j) :=
  pe_weak (pe_slice sl_list he (po_some hf) po_none) fun σ H Q h => by
    obtain ⟨a, xs, n, e1, e2, ha, hn, k⟩ := h
    exact ⟨_, e1, _, e2, _, rfl, a, _, rfl, ha, fun p hp => k _ p (same_upd (Same.refl H) hp) (by rw [upd_same, cut_hi xs hn])⟩
/-- a[: ..] of two lists put one behind another -/
def tCat (i j : Nat) : TE := fun σ H Q => ∃ (a b : Addr) (xs ys : List Int), σ[i]? = some (some (.ref a)) ∧ σ[j]? = some (some (.ref b)) ∧ H a = some (.lst (xs.map V.int)) ∧ H b = some (.lst (ys.map V.int)) ∧ xs.length + ys.length ≤ 1000 ∧ NewL H (xs ++ ys) Q
theorem pe_cat {e f : Expr} {pos : Pos} {i j : Nat} (he : PE X e (tVar i)) (hf : PE X f (tVar j)) : PE X (.BinOp e .Add f pos) (tCat i j) :=
  pe_weak (pe_op op_cat he hf) fun σ H Q h => by
    obtain ⟨a, b, xs, ys, e1, e2, ha, hb, hn, k⟩ := h
    exact ⟨_, e1, _, e2, a, b, _, _, rfl, rfl, ha, hb, (by rw [List.length_map, List.length_map]; exact Nat.le_of_lt (line_lt hn)), fun p hp => k _ p (same_upd (Same.refl H) hp) (by rw [upd_same, List.map_append])⟩
/-- len(x) of a list of whole numbers, x in slot i -/
def tLen (K : PySem.W.Frag) (i : Nat) : TE := fun σ H Q => ∃ (a : Addr) (xs : List Int), σ[i]? = some (some (.ref a)) ∧ InL K H a xs ∧ Q (.int (xs.length : Int)) H
theorem pe_len {e : Expr} {p pos : Pos} {i : Nat} (hg : Gl X "len") (hm : X.mg "len" = Option.none) (he : PE X e (tVar i)) (hs : starEach [e] X.env = (false, eval e X.env) :: starEach [] X.env := by rfl) (hpl : (backTo pos (starEach [] X.env)).any (·.1) = false := by rfl) : PE X (.Call (.Name "len" p) [e] [] pos) (tLen X.K i) :=
  pe_weak (pe_callB call_len_seq hg hm PySem.boot_len (pa_cons he pa_nil hs) (he := hs) (hpl := hpl)) fun σ H Q h => by
    obtain ⟨a, xs, e1, ha, q⟩ := h
    exact ⟨_, e1, a, _, rfl, .inl ha, by rw [List.length_map]; exact q⟩
/-- len(x) // 2 -/
def tHalf (K : PySem.W.Frag) (i : Nat) : TE := fun σ H Q => ∃ (a : Addr) (xs : List Int) (n : Nat), σ[i]? = some (some (.ref a)) ∧ InL K H a xs ∧ xs.length = n + n ∧ Q (.int (n : Int)) H
theorem pe_half {e : Expr} {pos pos' : Pos} {i k : Nat} (he : PE X e (tLen X.K i)) : PE X (.BinOp e .FloorDiv (.Constant (.int 2) k pos') pos) (tHalf X.K i) :=
  pe_weak (pe_op op_fdiv he pe_int) fun σ H Q h => by
    obtain ⟨a, xs, n, e1, ha, hn, q⟩ := h
    refine ⟨a, xs, e1, ha, _, _, rfl, rfl, ⟨by decide, by decide⟩, ?_⟩
    have e : ((xs.length : Nat) : Int) / 2 = (n : Int) := by omega
    show Q (.int (((xs.length : Nat) : Int) / 2)) H
    rw [e]
    exact q
/-- x[0], x in slot i -/
def tFst (K : PySem.W.Frag) (i : Nat) : TE := fun σ H Q => ∃ (a : Addr) (xs : List Int), σ[i]? = some (some (.ref a)) ∧ InL K H a xs ∧ 0 < xs.length ∧ Q (.int (xs.getD 0 0)) H
theorem pe_fst {e : Expr} {pos pos' : Pos} {i k : Nat} (he : PE X e (tVar i)) : PE X (.Subscript e (.Constant (.int 0) k pos') pos) (tFst X.K i) :=
  pe_weak (pe_ix ix_list he pe_int (fun _ _ => rfl)) fun σ H Q h => by
    obtain ⟨a, xs, e1, ha, hn, q⟩ := h
    exact ⟨_, e1, a, _, _, _, rfl, rfl, ha, at_of (j := 0) rfl (int_at hn), q⟩
/-- 1 << k, k in slot i -/
def tPow (i : Nat) : TE := fun σ H Q => ∃ z : Int, σ[i]? = some (some (.int z)) ∧ 0 ≤ z ∧ z ≤ 100 ∧ Q (.int ((2 ^ z.toNat : Nat) : Int)) H
theorem pe_pow {e : Expr} {pos pos' : Pos} {i k : Nat} (he : PE X e (tVar i)) : PE X (.BinOp (.Constant (.int 1) k pos') .LShift e pos) (tPow i) :=
  pe_weak (pe_op op_shl pe_int he) fun σ H Q h => by
    obtain ⟨z, e1, h0, h1, q⟩ := h
    refine ⟨_, e1, _, _, rfl, rfl, ⟨h0, by omega, by decide⟩, ?_⟩
    have e : (1 : Int) * 2 ^ z.toNat = ((2 ^ z.toNat : Nat) : Int) := by rw [Int.one_mul, Int.natCast_pow]; rfl
    show Q (.int ((1 : Int) * 2 ^ z.toNat)) H
    rw [e]
    exact q
end
theorem pg_pair {X : Cx} {es : List Expr} {k : Nat} {t : TGs} {pos : Pos} (K : PySem.W.Frag) (hK : X.K = K) (hc : X.calm = true) (h : PGs X es t) (hn : (assignEach es X.env).length = 2 := by rfl) (hst : (assignEach es X.env).findIdx? (·.1) = Option.none := by rfl) :
    PG X (.Tuple es k pos) (gTup K 2 t) := hK ▸ pg_tup hc h hn hst
/-! ### a comprehension over zip -/
theorem lc_zip {K : PySem.W.Frag} {a b : Addr} {xs ys : List V} {g : TG} {tt : TT} {te : TE} {vs : List Nat} {σ : L2.St} {H1 : Hp} {D : Addr} {Qd : Hp → Prop} (Pv : Nat → Hp → Prop) (h0 : Pv 0 (upd H1 D (.lst []))) (hxy : xs.length = ys.length)
    (hl : ∀ i H, Pv i H → SqL K H a xs ∧ SqL K H b ys)
    (hs : ∀ i x y T H, xs[i]? = some x → ys[i]? = some y → H T = Option.none → Pv i H → g (.ref T) (wipe σ vs) (upd H T (.tup [x, y])) fun σ2 H2 => wipe σ2 vs = wipe σ vs ∧ tt σ2 H2 fun b H3 =>
      if b = true then te σ2 H3 fun y H4 => ∃ acc, H4 D = some (.lst acc) ∧ acc.length < sizeLine ∧ Pv (i + 1) (upd H4 D (.lst (acc ++ [y]))) else Pv (i + 1) H3) (hd : ∀ H, Pv xs.length H → Qd H) :
    ∃ W : Nat → Nat → Hp → Prop, (∃ m, W 0 m (upd H1 D (.lst []))) ∧ ∀ i m H, W i m H →
      ((Itz K a b).stop i H ∧ Qd H) ∨ ((Itz K a b).go i H ∧ ∃ Nx : Hp → Prop, (∀ H', Nx H' → ∃ m', m' < m ∧ W (i + 1) m' H') ∧ ∀ x H', (Itz K a b).yld i H x H' → g x (wipe σ vs) H' fun σ2 H2 => wipe σ2 vs = wipe σ vs ∧ tt σ2 H2 fun b H3 =>
        if b = true then te σ2 H3 fun y H4 => ∃ acc, H4 D = some (.lst acc) ∧ acc.length < sizeLine ∧ Nx (upd H4 D (.lst (acc ++ [y]))) else Nx H3) := by
  refine ⟨fun i m H => m = xs.length - i ∧ i ≤ xs.length ∧ Pv i H, ⟨xs.length, by simp, Nat.zero_le _, h0⟩, ?_⟩
  rintro i m H ⟨rfl, hi, p⟩
  obtain ⟨qx, qy⟩ := hl i H p
  by_cases hlt : i < xs.length
  · have hlt2 : i < ys.length := by omega
    refine .inr ⟨⟨xs, ys, xs[i], ys[i], qx, qy, List.getElem?_eq_getElem hlt, List.getElem?_eq_getElem hlt2⟩, Pv (i + 1), fun H' p' => ⟨xs.length - (i + 1), by omega, rfl, hlt, p'⟩, fun x H' y => ?_⟩
    obtain ⟨T, u, v, e, hT, e2, hu, hv⟩ := y
    subst e e2
    exact hs i u v T H (hu xs qx) (hv ys qy) hT p
  · have e : i = xs.length := by omega
    subst e
    exact .inl ⟨⟨xs, ys, qx, qy, .inl (Nat.le_refl _)⟩, hd H p⟩
/-! ### one promise for several -/
theorem fn_any {P : Program} {w : World} {K : PySem.W.Frag} {mg : Str → Option Value} {base : Heap} {CX : CXT} {k : Nat} {f : Addr} {fd : FuncData} {ps : List Str} {sp : Nat → Sp} {n : Nat} (G : ∀ j, j ≤ n → FnOk P w K mg base CX k f fd ps (sp j)) :
    FnOk P w K mg base CX k f fd ps (fun vs H Q E => ∃ j, j ≤ n ∧ sp j vs H Q E) :=
  ⟨fun vs H Q E ⟨j, hj, h⟩ => (G j hj).len vs H Q E h, fun A outer s H args us vs Q E hr he hb hv ⟨j, hj, h⟩ => (G j hj).run A outer s H args us vs Q E hr he hb hv h⟩
end Cp

/-! The text by places. -/
set_option Elab.async false
set_option linter.all false
set_option maxRecDepth 100000
set_option maxHeartbeats 4000000
namespace Cp
open PySem PySem.Spec PyProof.Rows L2
def top (i : Nat) : Stmt := PySem.Challenge.pw_compasses_s06_root.main.body.getD i (.Pass ⟨0, 0, 0, 0⟩)
abbrev s_main : Stmt := top 6
abbrev s_is_row : Stmt := top 7
abbrev s_radicand : Stmt := top 8
abbrev s_side_of_zero : Stmt := top 9
abbrev s_side_of_whole : Stmt := top 10
abbrev s_norm : Stmt := top 11
abbrev s_product : Stmt := top 12
abbrev s_total : Stmt := top 13
abbrev s_difference : Stmt := top 14
abbrev s_is_cubic_or_quartic : Stmt := top 15
abbrev s_is_zero_at_reached : Stmt := top 16
abbrev s_fraction_where_zero : Stmt := top 17
abbrev s_divisors : Stmt := top 18
abbrev s_value_at : Stmt := top 19
abbrev s_resolvent : Stmt := top 20
abbrev s_is_zero_somewhere : Stmt := top 21
end Cp

/-! What root calls: rows, sides of numbers with one root, divisors, values. -/
set_option Elab.async false
set_option linter.all false
set_option maxRecDepth 100000
set_option maxHeartbeats 4000000
namespace Cp
open PySem PySem.Spec PyProof.Rows L2
/-- what the names of the file's top hold -/
structure Txt (mg : Str → Option Value) : Prop where
  len : mg "len" = Option.none
  all : mg "all" = Option.none
  abs : mg "abs" = Option.none
  range : mg "range" = Option.none
  zip : mg "zip" = Option.none
  min : mg "min" = Option.none
  rev : mg "reversed" = Option.none
  notAll : ∃ t, mg "NOT_ALLOWED" = some (.int (-2) t)
  farN : ∃ t, mg "FARTHEST_IN_NUMBERS" = some (.int 1000 t)
  cub : ∃ t, mg "NUMBERS_OF_CUBIC" = some (.int 4 t)
  qua : ∃ t, mg "NUMBERS_OF_QUARTIC" = some (.int 5 t)
  far : ∃ t, mg "FAR_ENOUGH" = some (.int 4474 t)
/-- a def of the text and its name -/
structure Dn (K : PySem.W.Frag) (mg : Str → Option Value) (x : Str) (st : Stmt) (ps : List Str) (f : Addr) (fd : FuncData) : Prop where
  F : Fun K x x st f fd
  m : mg x = some (.ref f)
  b : Binds K fd ps []
def spZip (K : PySem.W.Frag) (g : Int → Int → Int) : Sp := fun vs H Q _ => ∃ (a b : Addr) (xs ys : List Int), vs = [.ref a, .ref b] ∧ InL K H a xs ∧ InL K H b ys ∧ xs.length = ys.length ∧ xs.length ≤ 100 ∧ NewL H (List.zipWith g xs ys) Q
def spRad (K : PySem.W.Frag) : Sp := fun vs H Q _ => ∃ (a : Addr) (z : Int) (ds : List Int) (n : Nat), vs = [.ref a, .int z] ∧ z = (n : Int) ∧ InL K H a ds ∧ 1 ≤ n ∧ 2 * n - 1 ≤ ds.length ∧ NewL H (radI ds n) Q
def spWhole : Sp := fun vs H Q _ => ∃ z : Int, vs = [.int z] ∧ Q (.int (sgI z)) H
def spRow (K : PySem.W.Frag) : Sp := fun vs H Q _ => ∃ (a : Addr) (xs : List Int) (n far : Int), vs = [.ref a, .int n, .int far] ∧ InL K H a xs ∧ xs.length ≤ 100 ∧ ∀ H' : Hp, Same H H' → Q (.bl (rowI xs n far)) H'
/-- a comprehension's turn that adds a truth value -/
theorem bl_turn {H H' : Hp} {D : Addr} {bs : List Bool} {i : Nat} {c : Bool} (hc : bs[i]? = some c) (s : Same H H') (hD0 : H D = Option.none) (hD : H' D = some (.lst ((bs.take i).map V.bl))) (hl : bs.length ≤ 100) :
    ∃ acc, H' D = some (.lst acc) ∧ acc.length < sizeLine ∧ (Same H (upd H' D (.lst (acc ++ [V.bl c]))) ∧ (upd H' D (.lst (acc ++ [V.bl c]))) D = some (.lst ((bs.take (i + 1)).map V.bl))) := by
  have hi : i < bs.length := (List.getElem?_eq_some_iff.mp hc).1
  refine ⟨_, hD, ?_, fun b p q => ?_, ?_⟩
  · rw [List.length_map, List.length_take]
    exact line_lt (by omega)
  · rw [upd_ne (ne_of_none q hD0)]
    exact s b p q
  · rw [upd_same, take_snoc hc, List.map_append]
    rfl
theorem iteNN {c A B : Prop} [Decidable c] (hc : ¬ c) (h : A) : if (!decide c) = true then A else B := by
  rw [decide_eq_false hc]
  exact iteT h
theorem ref_non {a : Addr} : ¬ (V.ref a = V.non) := fun q => V.noConfusion q
section
variable {P : Program} {w : World} {K : PySem.W.Frag} {mg : Str → Option Value} {base : Heap}
theorem zip_turn {H : Hp} {D T : Addr} {xs ys : List Int} {g : Int → Int → Int} {i : Nat} {u v : Int} (hu : xs[i]? = some u) (hv : ys[i]? = some v) {H' : Hp} (s : Same H H') (hD0 : H D = Option.none) (hT : H' T = Option.none)
    (hD : H' D = some (.lst (((List.zipWith g xs ys).take i).map V.int))) (hl : xs.length ≤ 100) {o : HO} :
    ∃ acc, (upd H' T o) D = some (.lst acc) ∧ acc.length < sizeLine ∧ (Same H (upd (upd H' T o) D (.lst (acc ++ [V.int (g u v)]))) ∧
      (upd (upd H' T o) D (.lst (acc ++ [V.int (g u v)]))) D = some (.lst (((List.zipWith g xs ys).take (i + 1)).map V.int))) := by
  have hi : i < xs.length := (List.getElem?_eq_some_iff.mp hu).1
  have e : (List.zipWith g xs ys)[i]? = some (g u v) := by rw [List.getElem?_zipWith, hu, hv]
  refine ⟨_, by rw [upd_ne (ne_of_none hD hT)]; exact hD, ?_, fun b p q => ?_, ?_⟩
  · rw [List.length_map, List.length_take]
    exact line_lt (by omega)
  · have n1 : b ≠ D := ne_of_none q hD0
    rw [upd_ne n1, upd_ne (ne_of_none (s b p q) hT)]
    exact s b p q
  · rw [upd_same, take_snoc e, List.map_append]
    rfl
/-! ### radicand -/
theorem scR : FnScope ["d", "length"] ["d", "length"] (defScope s_radicand) := ⟨rfl, rfl, rfl, by decide +kernel, rfl, by decide +kernel, by decide +kernel⟩
theorem ok_rad {f : Addr} {fd : FuncData} (F : Fun K "radicand" "radicand" s_radicand f fd) : FnOk P w K mg base CX0 1 f fd ["d", "length"] (spRad K) := by
  refine F.ok scR (fun vs H Q E h => ?_) (fun cdv A outer s H vs Q E hr h => ?_)
  · obtain ⟨a, z, ds, n, rfl, _⟩ := h
    rfl
  · obtain ⟨a, z, ds, n, rfl, rfl, ha, hn, hd, k⟩ := h
    refine ⟨_, pss_one (ps_ret (pe_slice sl_list (pv 0) (po_some (pe_op op_sub (pv 1) pe_int)) (po_some (pe_op op_sub (pe_op op_mul pe_int (pv 1)) pe_int)))), ?_⟩
    refine ⟨_, rfl, _, rfl, _, _, rfl, rfl, _, rfl, _, rfl, _, _, rfl, rfl, .inl ⟨by decide, by decide⟩, _, _, rfl, rfl, _, rfl, a, _, rfl, ha, fun p hp => ?_⟩
    exact k _ p (same_upd (Same.refl H) hp) (upd_same.trans (congrArg (fun l => some (HO.lst l)) (cut_rad ds hn hd)))
/-! ### difference -/
theorem scD : FnScope ["x", "y", "p", "q"] ["x", "y"] (defScope s_difference) := ⟨rfl, rfl, rfl, by decide +kernel, rfl, by decide +kernel, by decide +kernel⟩
theorem ok_dif {f : Addr} {fd : FuncData} (F : Fun K "difference" "difference" s_difference f fd) (T : Txt mg) : FnOk P w K mg base CX0 1 f fd ["x", "y"] (spZip K fun p q => p - q) := by
  refine F.ok scD (fun vs H Q E h => ?_) (fun cdv A outer s H vs Q E hr h => ?_)
  · obtain ⟨a, b, xs, ys, rfl, _⟩ := h
    rfl
  · obtain ⟨a, b, xs, ys, rfl, ha, hb, hl, hz, k⟩ := h
    refine ⟨_, pss_one (ps_ret (pe_lc (own := [("p", 2), ("q", 3)]) rfl scD.nd (pi_zip rfl T.zip (pa_cons (pv 0) (pa_cons (pv 1) pa_nil))) (blkOk_by (by show blkC ["x", "y", "p", "q"] (defScope s_difference) _ _ = true; decide +kernel))
      (fun _ _ _ _ _ => pg_pair K rfl rfl (pgs_cons (pg_name (i := 2) scD.nd rfl (Or.inl rfl) (Or.inr rfl)) (pgs_cons (pg_name (i := 3) scD.nd rfl (Or.inl rfl) (Or.inr rfl)) pgs_nil)))
      (fun _ _ _ _ _ => pts_nil) (fun _ _ _ _ _ => pe_op op_sub (pv 2) (pv 3)))), ?_⟩
    refine ⟨_, rfl, _, rfl, a, b, _, _, rfl, ha, hb, fun D hD => lc_zip (K := K) (xs := xs.map V.int) (ys := ys.map V.int) (fun i H' => Same H H' ∧ H' D = some (.lst (((List.zipWith (fun p q => p - q) xs ys).take i).map V.int)))
      ⟨same_upd (Same.refl H) hD, upd_same⟩ (by rw [List.length_map, List.length_map]; exact hl) (fun i H' h => ⟨h.1.seq ha, h.1.seq hb⟩) ?_ ?_⟩
    · rintro i x y T H' hx hy hT ⟨s5, hD'⟩
      obtain ⟨u, hu, rfl⟩ := ints_at hx
      obtain ⟨v, hv, rfl⟩ := ints_at hy
      refine ⟨T, _, rfl, .inl (.inl upd_same), rfl, _, _, rfl, _, _, rfl, rfl, rfl, ?_⟩
      refine ⟨_, rfl, _, rfl, _, _, rfl, rfl, ?_⟩
      exact zip_turn (g := fun p q => p - q) hu hv s5 hD hT hD' hz
    · rintro H' ⟨s5, hD'⟩
      rw [List.length_map, List.take_of_length_le (by rw [List.length_zipWith]; omega)] at hD'
      exact k H' D s5 hD'
/-! ### side_of_whole -/
theorem scW : FnScope ["n"] ["n"] (defScope s_side_of_whole) := ⟨rfl, rfl, rfl, by decide +kernel, rfl, by decide +kernel, by decide +kernel⟩
theorem ok_whole {f : Addr} {fd : FuncData} (F : Fun K "side_of_whole" "side_of_whole" s_side_of_whole f fd) : FnOk P w K mg base CX0 1 f fd ["n"] spWhole := by
  refine F.ok scW (fun vs H Q E h => ?_) (fun cdv A outer s H vs Q E hr h => ?_)
  · obtain ⟨z, rfl, _⟩ := h
    rfl
  · obtain ⟨z, rfl, k⟩ := h
    refine ⟨_, pss_cons (ps_if (pt_cmpR op_gt (pv 0) pe_int (nomark _)) (pss_one (ps_ret pe_int)) pss_nil)
      (pss_cons (ps_if (pt_cmpR op_lt (pv 0) pe_int (nomark _)) (pss_one (ps_ret (pe_un un_neg pe_int))) pss_nil) (pss_one (ps_ret pe_int))), ?_⟩
    refine ⟨_, rfl, _, _, rfl, rfl, _, rfl, ite2 (fun h => ?_) (fun h => ?_)⟩
    · have e : (0 : Int) < z := of_decide_eq_true h
      have e1 : sgI z = 1 := by unfold sgI; rw [if_pos e]
      rw [e1] at k
      exact k
    · have e : ¬ (0 : Int) < z := fun q => h (decide_eq_true q)
      refine ⟨_, rfl, _, _, rfl, rfl, _, rfl, ite2 (fun h2 => ?_) (fun h2 => ?_)⟩
      · have e2 : z < 0 := of_decide_eq_true h2
        have e1 : sgI z = -1 := by unfold sgI; rw [if_neg e, if_pos e2]
        rw [e1] at k
        exact ⟨_, rfl, k⟩
      · have e2 : ¬ z < 0 := fun q => h2 (decide_eq_true q)
        have e1 : sgI z = 0 := by unfold sgI; rw [if_neg e, if_neg e2]
        rw [e1] at k
        exact k
/-! ### is_row -/
theorem scI : FnScope ["row", "length", "farthest", "part"] ["row", "length", "farthest"] (defScope s_is_row) := ⟨rfl, rfl, rfl, by decide +kernel, rfl, by decide +kernel, by decide +kernel⟩
theorem ok_row {f : Addr} {fd : FuncData} (F : Fun K "is_row" "is_row" s_is_row f fd) (T : Txt mg) : FnOk P w K mg base CX0 1 f fd ["row", "length", "farthest"] (spRow K) := by
  refine F.ok scI (fun vs H Q E h => ?_) (fun cdv A outer s H vs Q E hr h => ?_)
  · obtain ⟨a, xs, n, far, rfl, _⟩ := h
    rfl
  · obtain ⟨a, xs, n, far, rfl, ha, hl, k⟩ := h
    refine ⟨_, pss_one (ps_ret (pe_and (pe_cmpR op_eq (pe_len rfl T.len (pv 0)) (pv 1) (nomark _))
      (pe_one (pe_callB (cr_all rfl) rfl T.all boot_all (pa_cons (pe_lc (own := [("part", 3)]) rfl scI.nd (pi_list (pv 0)) (blkOk_by (by show blkC ["row", "length", "farthest", "part"] (defScope s_is_row) _ _ = true; decide +kernel))
        (fun _ _ _ _ _ => pg_name (i := 3) scI.nd rfl (Or.inl rfl) (Or.inr rfl)) (fun _ _ _ _ _ => pts_nil)
        (fun _ _ _ _ _ => pe_cmpR op_le (pe_callB call_abs rfl T.abs boot_abs (pa_cons (pv 3) pa_nil)) (pv 2) (nomark _))) pa_nil))))), ?_⟩
    refine ⟨a, xs, rfl, ha, _, rfl, rfl, _, rfl, ite2 (fun h => ?_) (fun h => ?_)⟩
    · have e : ((xs.length : Nat) : Int) = n := V.int.inj (of_decide_eq_true h)
      have hb : ∀ i : Nat, (xs.map fun z => decide (absI z ≤ far))[i]? = (xs[i]?).map fun z => decide (absI z ≤ far) := fun i => List.getElem?_map ..
      refine ⟨_, rfl, a, rfl, ⟨_, ha⟩, fun D hD => lc_list (K := K) (a := a) (xs := xs.map V.int) (fun i H' => Same H H' ∧ H' D = some (.lst (((xs.map fun z => decide (absI z ≤ far)).take i).map V.bl)))
        ⟨same_upd (Same.refl H) hD, upd_same⟩ (fun i H' _ h => h.1.seq ha) ?_ ?_⟩
      · rintro i x H' hx ⟨s5, hD'⟩
        obtain ⟨z, hz, rfl⟩ := ints_at hx
        refine ⟨rfl, ?_⟩
        refine ⟨_, rfl, z, rfl, _, rfl, _, _, rfl, rfl, ?_⟩
        exact bl_turn (bs := xs.map fun z => decide (absI z ≤ far)) (by rw [hb, hz]; rfl) s5 hD hD' (by rw [List.length_map]; exact hl)
      · rintro H' ⟨s5, hD'⟩
        rw [List.length_map, List.take_of_length_le (by rw [List.length_map]; exact Nat.le_refl _)] at hD'
        refine ⟨D, _, rfl, SqL.of hD', ?_⟩
        have z := k H' s5
        have e2 : rowI xs n far = (xs.map fun z => decide (absI z ≤ far)).all id := by
          unfold rowI
          rw [decide_eq_true e, Bool.true_and, List.all_map]
          rfl
        rw [e2] at z
        exact z
    · have e : ¬ ((xs.length : Nat) : Int) = n := fun q => h (decide_eq_true (congrArg V.int q))
      have z := k H (Same.refl H)
      have e2 : rowI xs n far = false := by
        unfold rowI
        rw [decide_eq_false e, Bool.false_and]
      rw [e2] at z
      exact z
theorem int_mk {K : PySem.W.Frag} {h : Heap} {mg : Str → Option Value} {x : Str} {i : Int} {t : Tok} (X : K.In h) (G : h.Ns mainGlobals mg) (a : PySem.W.nsIn K mainGlobals x = some (some (.int i t))) : ∃ t, mg x = some (.int i t) := ⟨t, PySem.W.mg_of X G a⟩
theorem dn_mk {K : PySem.W.Frag} {h : Heap} {mg : Str → Option Value} {x : Str} {st : Stmt} {ps : List Str} {f : Addr} {od an : Option Addr} {sl : Array (Option Value)} {oc kV dc pm cd ct : Value} (X : K.In h) (G : h.Ns mainGlobals mg)
    (a : PySem.W.nsIn K mainGlobals x = some (some (.ref f))) (l : K.lookup f = some ⟨oc, od, .func (PySem.W.fnOf x x (defArgs st) (defBody st) (defScope st) .none kV dc pm an cd ct), sl⟩)
    (c : PySem.W.codeIn K cd x = true) (k : PySem.W.keepIn K (.ref f) = true)
    (hb : ∀ (kV doc pm : Value) (an : Option Addr) (cdv ct : Value) (us : List Value), us.length = ps.length → bindArgs (PySem.W.fnOf x x (defArgs st) (defBody st) (defScope st) .none kV doc pm an cdv ct) ⟨us, []⟩ = pure (ps.zip us)) :
    Dn K mg x st ps f (PySem.W.fnOf x x (defArgs st) (defBody st) (defScope st) .none kV dc pm an cd ct) :=
  ⟨fun_mk l c k, PySem.W.mg_of X G a, (fun_mk l c k).binds hb⟩
/-! ### product, norm, side_of_zero: of numbers with one root at most -/
def spP0 (K : PySem.W.Frag) : Sp := fun vs H Q _ => ∃ (dA a b : Addr) (x y : Int), vs = [.ref dA, .ref a, .ref b] ∧ InL K H a [x] ∧ InL K H b [y] ∧ x.natAbs < 2 ^ 300 ∧ y.natAbs < 2 ^ 300 ∧ NewL H [x * y] Q
def spN1 (K : PySem.W.Frag) : Sp := fun vs H Q _ => ∃ (dA a : Addr) (d x y : Int), vs = [.ref dA, .ref a] ∧ InL K H dA [d] ∧ InL K H a [x, y] ∧ x.natAbs < 2 ^ 100 ∧ y.natAbs < 2 ^ 100 ∧ d.natAbs < 2 ^ 100 ∧ NewL H [x * x - y * y * d] Q
def spS0 (K : PySem.W.Frag) : Sp := fun vs H Q _ => ∃ (dA a : Addr) (x : Int), vs = [.ref dA, .ref a] ∧ InL K H a [x] ∧ ∀ H' : Hp, Same H H' → Q (.int (sgI x)) H'
def spS1 (K : PySem.W.Frag) : Sp := fun vs H Q _ => ∃ (dA a : Addr) (d x y : Int), vs = [.ref dA, .ref a] ∧ InL K H dA [d] ∧ InL K H a [x, y] ∧ x.natAbs < 2 ^ 100 ∧ y.natAbs < 2 ^ 100 ∧ d.natAbs < 2 ^ 100 ∧ ∀ H' : Hp, Same H H' → Q (.int (Qt.side1 d x y)) H'
theorem scP : FnScope ["d", "x", "y", "half", "a", "b", "c", "e", "r_r", "plain", "beside_root"] ["d", "x", "y"] (defScope s_product) := ⟨rfl, rfl, rfl, by decide +kernel, rfl, by decide +kernel, by decide +kernel⟩
theorem ok_p0 {f : Addr} {fd : FuncData} (F : Fun K "product" "product" s_product f fd) (T : Txt mg) : FnOk P w K mg base CX0 1 f fd ["d", "x", "y"] (spP0 K) := by
  refine F.ok scP (fun vs H Q E h => ?_) (fun cdv A outer s H vs Q E hr h => ?_)
  · obtain ⟨dA, a, b, x, y, rfl, _⟩ := h
    rfl
  · obtain ⟨dA, a, b, x, y, rfl, ha, hb, hx, hy, k⟩ := h
    refine ⟨_, pss_cons (ps_if (pt_cmpR op_eq (pe_len rfl T.len (pv 1)) pe_int (nomark _)) (pss_one (ps_ret (pe_lst (pa_cons (pe_op op_mulB (pe_fst (pv 1)) (pe_fst (pv 2))) pa_nil)))) pss_nil) pss_never, ?_⟩
    refine ⟨a, [x], rfl, ha, rfl, _, rfl, iteD rfl ?_⟩
    refine ⟨a, [x], rfl, ha, (by show 0 < 1; decide), b, [y], rfl, hb, (by show 0 < 1; decide), _, _, rfl, rfl, mul_ok hx hy (by decide), (by show 1 ≤ sizeLine; decide), fun p hp => ?_⟩
    exact k _ p (same_upd (Same.refl H) hp) upd_same
theorem lt_pow_mul {x y : Int} {m n : Nat} (hx : x.natAbs < 2 ^ m) (hy : y.natAbs < 2 ^ n) : (x * y).natAbs < 2 ^ (m + n) := by
  rw [Int.natAbs_mul, Nat.pow_add]
  exact Nat.mul_lt_mul'' hx hy
theorem lt_300 {x : Nat} {m : Nat} (h : x < 2 ^ m) (hm : m ≤ 300) : x < 2 ^ 300 := Nat.lt_of_lt_of_le h (Nat.pow_le_pow_right (by decide) hm)
theorem scN : FnScope ["d", "x", "half", "a", "b"] ["d", "x"] (defScope s_norm) := ⟨rfl, rfl, rfl, by decide +kernel, rfl, by decide +kernel, by decide +kernel⟩
theorem ok_n1 {f fP fR fD : Addr} {fd fdP fdR fdD : FuncData} (F : Fun K "norm" "norm" s_norm f fd) (T : Txt mg) (DR : Dn K mg "radicand" s_radicand ["d", "length"] fR fdR)
    (DD : Dn K mg "difference" s_difference ["x", "y"] fD fdD) (DP : Dn K mg "product" s_product ["d", "x", "y"] fP fdP) : FnOk P w K mg base CX0 2 f fd ["d", "x"] (spN1 K) := by
  have GP : FnOk P w K mg base CX0 1 fP fdP ["d", "x", "y"] (spP0 K) := ok_p0 DP.F T
  have GR : FnOk P w K mg base CX0 1 fR fdR ["d", "length"] (spRad K) := ok_rad DR.F
  have GD : FnOk P w K mg base CX0 1 fD fdD ["x", "y"] (spZip K fun p q => p - q) := ok_dif DD.F T
  refine F.ok scN (fun vs H Q E h => ?_) (fun cdv A outer s H vs Q E hr h => ?_)
  · obtain ⟨dA, a, d, x, y, rfl, _⟩ := h
    rfl
  · obtain ⟨dA, a, d, x, y, rfl, hd, ha, hx, hy, hz, k⟩ := h
    refine ⟨_, pss_cons (ps_set (i := 2) scN.nd rfl (Or.inl rfl) (pe_half (pe_len rfl T.len (pv 1))))
      (pss_cons (ps_set (i := 3) scN.nd rfl (Or.inl rfl) (pe_lo (pv 1) (pv 2)))
      (pss_cons (ps_set (i := 4) scN.nd rfl (Or.inl rfl) (pe_hi (pv 1) (pv 2)))
      (pss_one (ps_ret (pe_call GD hr rfl DD.m DD.F.kp DD.b .nil pass0
        (pa_cons (pe_call GP hr rfl DP.m DP.F.kp DP.b .nil pass0 (pa_cons (pv 0) (pa_cons (pv 3) (pa_cons (pv 3) pa_nil))))
        (pa_cons (pe_call GP hr rfl DP.m DP.F.kp DP.b .nil pass0
          (pa_cons (pv 0) (pa_cons (pe_call GP hr rfl DP.m DP.F.kp DP.b .nil pass0 (pa_cons (pv 0) (pa_cons (pv 4) (pa_cons (pv 4) pa_nil))))
            (pa_cons (pe_call GR hr rfl DR.m DR.F.kp DR.b .nil pass0 (pa_cons (pv 0) (pa_cons (pv 2) pa_nil))) pa_nil)))) pa_nil))))))), ?_⟩
    refine ⟨a, [x, y], 1, rfl, ha, rfl, ?_⟩
    refine ⟨a, [x, y], 1, rfl, rfl, ha, (by show 1 ≤ 2; decide), fun H1 a1 s1 q1 => ?_⟩
    refine ⟨a, [x, y], 1, rfl, rfl, s1.seq ha, (by show 1 ≤ 2; decide), fun H2 b1 s2 q2 => ?_⟩
    have t2 := s1.trans s2
    have ia : InL K H2 a1 [x] := s2.seq (InL.of (xs := [x]) q1)
    have ib : InL K H2 b1 [y] := InL.of (xs := [y]) q2
    have x3 := lt_300 hx (by decide)
    have y3 := lt_300 hy (by decide)
    refine ⟨_, rfl, _, rfl, _, rfl, dA, a1, a1, x, x, rfl, ia, ia, x3, x3, fun H5 p5 s5 q5 => ?_⟩
    refine ⟨_, rfl, _, rfl, _, rfl, _, rfl, dA, b1, b1, y, y, rfl, s5.seq ib, s5.seq ib, y3, y3, fun H6 p6 s6 q6 => ?_⟩
    have t6 : Same H2 H6 := s5.trans s6
    refine ⟨_, rfl, _, rfl, dA, _, [d], 1, rfl, rfl, t6.seq (t2.seq hd), (by decide), (by show 2 * 1 - 1 ≤ 1; decide), fun H7 p7 s7 q7 => ?_⟩
    refine ⟨dA, p6, p7, y * y, d, rfl, s7.seq (InL.of (xs := [y * y]) q6), InL.of (xs := [d]) q7, lt_300 (lt_pow_mul hy hy) (by decide), lt_300 hz (by decide), fun H8 p8 s8 q8 => ?_⟩
    refine ⟨p5, p8, [x * x], [y * y * d], rfl, s8.seq (s7.seq (s6.seq (InL.of (xs := [x * x]) q5))), InL.of (xs := [y * y * d]) q8, rfl, (by show 1 ≤ 100; decide), fun H9 p9 s9 q9 => k H9 p9 ((t2.trans ((t6.trans s7).trans s8)).trans s9) q9⟩
theorem scS : FnScope ["d", "x", "half", "a", "b", "side_of_a", "side_of_b"] ["d", "x"] (defScope s_side_of_zero) := ⟨rfl, rfl, rfl, by decide +kernel, rfl, by decide +kernel, by decide +kernel⟩
theorem ok_s0 {f fW : Addr} {fd fdW : FuncData} (F : Fun K "side_of_zero" "side_of_zero" s_side_of_zero f fd) (T : Txt mg) (DW : Dn K mg "side_of_whole" s_side_of_whole ["n"] fW fdW) : FnOk P w K mg base CX0 2 f fd ["d", "x"] (spS0 K) := by
  have GW : FnOk P w K mg base CX0 1 fW fdW ["n"] spWhole := ok_whole DW.F
  refine F.ok scS (fun vs H Q E h => ?_) (fun cdv A outer s H vs Q E hr h => ?_)
  · obtain ⟨dA, a, x, rfl, _⟩ := h
    rfl
  · obtain ⟨dA, a, x, rfl, ha, k⟩ := h
    refine ⟨_, pss_cons (ps_if (pt_cmpR op_eq (pe_len rfl T.len (pv 1)) pe_int (nomark _)) (pss_one (ps_ret (pe_call GW hr rfl DW.m DW.F.kp DW.b .nil pass0 (pa_cons (pe_fst (pv 1)) pa_nil)))) pss_nil) pss_never, ?_⟩
    refine ⟨a, [x], rfl, ha, rfl, _, rfl, iteD rfl ?_⟩
    exact ⟨a, [x], rfl, ha, (by show 0 < 1; decide), _, rfl, k H (Same.refl H)⟩
theorem sg_range (x : Int) : -1 ≤ sgI x ∧ sgI x ≤ 1 := by unfold sgI; split <;> (try split) <;> omega
theorem ok_s1 {f fN fW fP fR fD : Addr} {fd fdN fdW fdP fdR fdD : FuncData} (D : Dn K mg "side_of_zero" s_side_of_zero ["d", "x"] f fd) (T : Txt mg) (DW : Dn K mg "side_of_whole" s_side_of_whole ["n"] fW fdW) (DN : Dn K mg "norm" s_norm ["d", "x"] fN fdN)
    (DR : Dn K mg "radicand" s_radicand ["d", "length"] fR fdR) (DD : Dn K mg "difference" s_difference ["x", "y"] fD fdD) (DP : Dn K mg "product" s_product ["d", "x", "y"] fP fdP) : FnOk P w K mg base CX0 3 f fd ["d", "x"] (spS1 K) := by
  have G : FnOk P w K mg base CX0 2 f fd ["d", "x"] (spS0 K) := ok_s0 D.F T DW
  have GN : FnOk P w K mg base CX0 2 fN fdN ["d", "x"] (spN1 K) := ok_n1 DN.F T DR DD DP
  refine D.F.ok scS (fun vs H Q E h => ?_) (fun cdv A outer s H vs Q E hr h => ?_)
  · obtain ⟨dA, a, d, x, y, rfl, _⟩ := h
    rfl
  · obtain ⟨dA, a, d, x, y, rfl, hd, ha, hx, hy, hz, k⟩ := h
    refine ⟨_, pss_cons (ps_if (pt_cmpR op_eq (pe_len rfl T.len (pv 1)) pe_int (nomark _)) pss_never pss_nil)
      (pss_cons (ps_set (i := 2) scS.nd rfl (Or.inl rfl) (pe_half (pe_len rfl T.len (pv 1))))
      (pss_cons (ps_set (i := 3) scS.nd rfl (Or.inl rfl) (pe_lo (pv 1) (pv 2)))
      (pss_cons (ps_set (i := 4) scS.nd rfl (Or.inl rfl) (pe_hi (pv 1) (pv 2)))
      (pss_cons (ps_set (i := 5) scS.nd rfl (Or.inl rfl) (pe_call G hr rfl D.m D.F.kp D.b .nil pass0 (pa_cons (pv 0) (pa_cons (pv 3) pa_nil))))
      (pss_cons (ps_set (i := 6) scS.nd rfl (Or.inl rfl) (pe_call G hr rfl D.m D.F.kp D.b .nil pass0 (pa_cons (pv 0) (pa_cons (pv 4) pa_nil))))
      (pss_cons (ps_if (pt_cmpR op_eq (pv 5) pe_int (nomark _)) (pss_one (ps_ret (pv 6))) pss_nil)
      (pss_cons (ps_if (PW.pt (pw_or (pt_cmpR op_eq (pv 6) pe_int (nomark _)) (pw_or1 (pt_cmpR op_eq (pv 5) (pv 6) (nomark _))))) (pss_one (ps_ret (pv 5))) pss_nil)
      (pss_one (ps_ret (pe_op op_mul (pv 5) (pe_call G hr rfl D.m D.F.kp D.b .nil pass0 (pa_cons (pv 0) (pa_cons (pe_call GN hr rfl DN.m DN.F.kp DN.b .nil pass0 (pa_cons (pv 0) (pa_cons (pv 1) pa_nil))) pa_nil))))))))))))), ?_⟩
    have r1 := sg_range x
    unfold Qt.side1 at k
    -- if len(x) == 1
    refine ⟨a, [x, y], rfl, ha, rfl, _, rfl, iteDN (fun q => by have e : ((2 : Nat) : Int) = 1 := V.int.inj q; omega) ?_⟩
    -- half, a, b
    refine ⟨a, [x, y], 1, rfl, ha, rfl, ?_⟩
    refine ⟨a, [x, y], 1, rfl, rfl, ha, (by show 1 ≤ 2; decide), fun H1 a1 s1 q1 => ?_⟩
    refine ⟨a, [x, y], 1, rfl, rfl, s1.seq ha, (by show 1 ≤ 2; decide), fun H2 b1 s2 q2 => ?_⟩
    have t2 := s1.trans s2
    have ia : InL K H2 a1 [x] := s2.seq (InL.of (xs := [x]) q1)
    have ib : InL K H2 b1 [y] := InL.of (xs := [y]) q2
    refine ⟨_, rfl, _, rfl, dA, a1, x, rfl, ia, fun H3 s3 => ?_⟩
    refine ⟨_, rfl, _, rfl, dA, b1, y, rfl, s3.seq ib, fun H4 s4 => ?_⟩
    have t5 : Same H H4 := t2.trans (s3.trans s4)
    refine ⟨_, rfl, rfl, _, rfl, ite2 (fun h => ?_) (fun h => ?_)⟩
    · have e : sgI x = 0 := V.int.inj (of_decide_eq_true h)
      rw [if_pos e] at k
      exact ⟨_, rfl, k H4 t5⟩
    · have e : ¬ sgI x = 0 := fun q => h (decide_eq_true (congrArg V.int q))
      rw [if_neg e] at k
      have yes : (sgI y = 0 ∨ sgI x = sgI y) → Q (.int (sgI x)) H4 := fun q => by
        have z := k H4 t5
        rw [if_pos q] at z
        exact z
      refine ⟨_, rfl, rfl, _, rfl, ite2 (fun h2 => iteT ⟨_, rfl, yes (.inl (V.int.inj (of_decide_eq_true h2)))⟩) (fun h2 => ?_)⟩
      refine ⟨_, rfl, _, rfl, rfl, _, rfl, ite2 (fun h3 => ⟨_, rfl, yes (.inr (V.int.inj (of_decide_eq_true h3)))⟩) (fun h3 => ?_)⟩
      have no : ¬ (sgI y = 0 ∨ sgI x = sgI y) := fun q => q.elim (fun q => h2 (decide_eq_true (congrArg V.int q))) (fun q => h3 (decide_eq_true (congrArg V.int q)))
      rw [if_neg no] at k
      refine ⟨_, rfl, _, rfl, _, rfl, _, rfl, dA, a, d, x, y, rfl, t5.seq hd, t5.seq ha, hx, hy, hz, fun H9 p9 s9 q9 => ?_⟩
      refine ⟨dA, p9, x * x - y * y * d, rfl, InL.of (xs := [x * x - y * y * d]) q9, fun H10 s10 => ?_⟩
      exact ⟨_, _, rfl, rfl, .inl ⟨by omega, by omega⟩, k H10 (t5.trans (s9.trans s10))⟩
end
end Cp

/-! divisors, value_at, fraction_where_zero, resolvent. -/
set_option Elab.async false
set_option linter.all false
set_option maxRecDepth 100000
set_option maxHeartbeats 4000000
namespace Cp
open PySem PySem.Spec PyProof.Rows L2
/-! ### rules -/
/-- a walk over reversed(list) that leaves the list as it is -/
theorem for_rev {K : PySem.W.Frag} {a : Addr} {xs : List V} {g : TG} {tb : TS} {D : Ends} {σ : L2.St} {H : Hp} (Pv : Nat → L2.St → Hp → Prop) (h0 : Pv 0 σ H) (hl : ∀ i σ H, i ≤ xs.length → Pv i σ H → SqL K H a xs)
    (hs : ∀ i x σ H, i < xs.length → xs[xs.length - 1 - i]? = some x → Pv i σ H → g x σ H fun σ2 H2 => tb { D with nx := Pv (i + 1), ct := Pv (i + 1), bk := D.nx } σ2 H2) (hd : ∀ σ H, Pv xs.length σ H → D.nx σ H) :
    ∃ W : Nat → Nat → L2.St → Hp → Prop, (∃ m, W 0 m σ H) ∧ ∀ i m σ H, W i m σ H →
      ((Itv K a xs.length).stop i H ∧ D.nx σ H) ∨ ((Itv K a xs.length).go i H ∧ ∃ N : L2.St → Hp → Prop, (∀ σ' H', N σ' H' → ∃ m', m' < m ∧ W (i + 1) m' σ' H') ∧ ∀ x H', (Itv K a xs.length).yld i H x H' → g x σ H' fun σ2 H2 => tb { D with nx := N, ct := N, bk := D.nx } σ2 H2) := by
  refine ⟨fun i m σ H => m = xs.length - i ∧ i ≤ xs.length ∧ Pv i σ H, ⟨xs.length, by simp, Nat.zero_le _, h0⟩, ?_⟩
  rintro i m σ H ⟨rfl, hi, p⟩
  have q := hl i σ H hi p
  by_cases hlt : i < xs.length
  · refine .inr ⟨⟨hlt, xs, xs[xs.length - 1 - i], q, List.getElem?_eq_getElem (by omega)⟩, Pv (i + 1), fun σ' H' p' => ⟨xs.length - (i + 1), by omega, rfl, hlt, p'⟩, fun x H' y => ?_⟩
    obtain ⟨e, y⟩ := y
    subst e
    exact hs i x σ _ hlt (y xs q) p
  · have e : i = xs.length := by omega
    subst e
    exact .inl ⟨Nat.le_refl _, hd σ H p⟩
section
variable {X : Cx}
/-- x[j], x in slot i, j written -/
def tAt (K : PySem.W.Frag) (i j : Nat) : TE := fun σ H Q => ∃ (a : Addr) (xs : List Int) (v : Int), σ[i]? = some (some (.ref a)) ∧ InL K H a xs ∧ xs[j]? = some v ∧ Q (.int v) H
theorem pe_at {e : Expr} {pos pos' : Pos} {i k j : Nat} {z : Int} (hz : z = (j : Int)) (he : PE X e (tVar i)) : PE X (.Subscript e (.Constant (.int z) k pos') pos) (tAt X.K i j) :=
  pe_weak (pe_ix ix_list he pe_int (fun _ _ => rfl)) fun σ H Q h => by
    obtain ⟨a, xs, v, e1, ha, hv, q⟩ := h
    exact ⟨_, e1, a, _, _, _, rfl, rfl, ha, at_of (j := j) hz (by rw [List.getElem?_map, hv]; rfl), q⟩
/-- x[-1], x in slot i -/
def tLast (K : PySem.W.Frag) (i : Nat) : TE := fun σ H Q => ∃ (a : Addr) (xs : List Int), σ[i]? = some (some (.ref a)) ∧ InL K H a xs ∧ xs ≠ [] ∧ Q (.int (xs.getLastD 0)) H
theorem at_last {xs : List Int} (h : xs ≠ []) : atI (xs.map V.int) (-1) = some (V.int (xs.getLastD 0)) := by
  have e : xs = xs.dropLast ++ [xs.getLast h] := (List.dropLast_concat_getLast h).symm
  have e2 : xs.getLastD 0 = xs.getLast h := by
    cases xs with
    | nil => exact (h rfl).elim
    | cons x l => rfl
  rw [e2]
  conv => lhs; rw [e]
  rw [List.map_append]
  exact atI_last _ _
theorem pe_last {e : Expr} {pos pos' pos2 : Pos} {i k : Nat} (he : PE X e (tVar i)) : PE X (.Subscript e (.UnaryOp .USub (.Constant (.int 1) k pos') pos2) pos) (tLast X.K i) :=
  pe_weak (pe_ix ix_list he (pe_un un_neg pe_int) (fun _ _ => rfl)) fun σ H Q h => by
    obtain ⟨a, xs, e1, ha, hn, q⟩ := h
    exact ⟨_, e1, _, rfl, a, _, _, _, rfl, rfl, ha, at_last hn, q⟩
end
/-! ### the promises -/
def spDiv : Sp := fun vs H Q _ => ∃ n : Int, vs = [.int n] ∧ n.natAbs < 2 ^ 60 ∧ NewL H (Qt.divI n) Q
def spVal (K : PySem.W.Frag) : Sp := fun vs H Q _ => ∃ (a : Addr) (xs : List Int) (x y : Int), vs = [.ref a, .int x, .int y] ∧ InL K H a xs ∧ (∀ z ∈ xs, -(2 ^ 60) < z ∧ z < 2 ^ 60) ∧ (-(2 ^ 60) < x ∧ x < 2 ^ 60) ∧ (-(2 ^ 60) < y ∧ y < 2 ^ 60) ∧ Q (.int (Rt.H xs x y)) H
/-- v tells r: None, or a pair -/
def FracAt (H : Hp) (v : V) : Option (Int × Int) → Prop
  | none => v = .non
  | some f => ∃ t : Addr, v = .ref t ∧ H t = some (.tup [.int f.1, .int f.2])
def spFrac (K : PySem.W.Frag) : Sp := fun vs H Q _ => ∃ (a : Addr) (xs : List Int), vs = [.ref a] ∧ InL K H a xs ∧ xs ≠ [] ∧ (∀ z ∈ xs, -(2 ^ 60) < z ∧ z < 2 ^ 60) ∧
  ∀ (H' : Hp) (v : V) (r : Option (Int × Int)), Same H H' → FracAt H' v r → Qt.FracOk xs r → Q v H'
def spRes (K : PySem.W.Frag) : Sp := fun vs H Q _ => ∃ (A : Addr) (a b c d e : Int), vs = [.ref A] ∧ InL K H A [e, d, c, b, a] ∧ (∀ z ∈ [e, d, c, b, a], -1000 ≤ z ∧ z ≤ 1000) ∧ NewL H (Qt.resI a b c d e) Q
section
variable {P : Program} {w : World} {K : PySem.W.Frag} {mg : Str → Option Value} {base : Heap}
/-! ### divisors -/
theorem scDi : FnScope ["n", "t"] ["n"] (defScope s_divisors) := ⟨rfl, rfl, rfl, by decide +kernel, rfl, by decide +kernel, by decide +kernel⟩
theorem boot_min5 : bootBuiltins "min" = some (.builtin "min") := by decide +kernel
theorem line_lt5 {n : Nat} (h : n ≤ 5000) : n < sizeLine := Nat.lt_of_le_of_lt h (by decide)
theorem ok_div {f : Addr} {fd : FuncData} (F : Fun K "divisors" "divisors" s_divisors f fd) (T : Txt mg) : FnOk P w K mg base CX0 1 f fd ["n"] spDiv := by
  obtain ⟨t1, m1⟩ := T.far
  refine F.ok scDi (fun vs H Q E h => ?_) (fun cdv A outer s H vs Q E hr h => ?_)
  · obtain ⟨n, rfl, _⟩ := h
    rfl
  · obtain ⟨n, rfl, hn, k⟩ := h
    refine ⟨_, pss_one (ps_ret (pe_lc (own := [("t", 1)]) rfl scDi.nd (pi_range2 rfl T.range (pa_cons pe_int (pa_cons (pe_op op_add (pe_callB (call_min2 rfl) rfl T.min boot_min5 (pa_cons (pe_callB call_abs rfl T.abs boot_abs (pa_cons (pv 0) pa_nil)) (pa_cons (pe_glob (v := V.int 4474) rfl m1 ⟨_, rfl⟩) pa_nil))) pe_int) pa_nil)))
      (blkOk_by (by show blkC ["n", "t"] (defScope s_divisors) _ _ = true; decide +kernel))
      (fun _ _ _ _ _ => pg_name (i := 1) scDi.nd rfl (Or.inl rfl) (Or.inr rfl)) (fun _ _ _ _ _ => pts_one (pt_cmpR op_eq (pe_op op_mod (pv 0) (pv 1)) pe_int (nomark _))) (fun _ _ _ _ _ => pv 1))), ?_⟩
    have eN : ((if (4474 : Int) < (if n < 0 then -n else n) then 4474 else (if n < 0 then -n else n)) + 1 - 1).toNat = min n.natAbs 4474 := by
      by_cases h0 : n < 0
      · rw [if_pos h0]
        split <;> omega
      · rw [if_neg h0]
        split <;> omega
    have eB : (if (4474 : Int) < (if n < 0 then -n else n) then 4474 else (if n < 0 then -n else n)) + 1 < 2 ^ 62 ∧ -(2 ^ 62) ≤ (if (4474 : Int) < (if n < 0 then -n else n) then 4474 else (if n < 0 then -n else n)) + 1 := by
      by_cases h0 : n < 0
      · rw [if_pos h0]
        split <;> omega
      · rw [if_neg h0]
        split <;> omega
    refine ⟨_, rfl, n, rfl, _, _, rfl, _, _, rfl, rfl, _, _, rfl, ⟨by decide, by decide, eB.2, eB.1⟩, fun D hD => lc_range (lo := 1) (fun i H' => i ≤ 5000 → Same H H' ∧ H' D = some (.lst ((Qt.divTo n i).map V.int)))
      (fun _ => ⟨same_upd (Same.refl H) hD, upd_same⟩) ?_ ?_⟩
    · rintro i H' hi hP
      have hi2 : i < min n.natAbs 4474 := by rw [← eN]; exact hi
      obtain ⟨s5, hD'⟩ := hP (by omega)
      have es := Qt.divTo_succ n i
      refine ⟨rfl, ?_⟩
      refine ⟨_, rfl, _, rfl, _, _, rfl, rfl, (by show (0 : Int) < 1 + (i : Int); omega), rfl, _, rfl, ite2 (fun h => ?_) (fun h => ?_)⟩
      · have e : n % (1 + (i : Int)) = 0 := V.int.inj (of_decide_eq_true h)
        rw [if_pos (by rw [e]; rfl)] at es
        refine ⟨_, rfl, _, hD', ?_, fun _ => ⟨fun b u q => ?_, ?_⟩⟩
        · rw [List.length_map]
          exact line_lt5 (Nat.le_trans (Qt.divTo_len n i) (by omega))
        · rw [upd_ne (ne_of_none q hD)]
          exact s5 b u q
        · rw [upd_same, es, List.map_append]
          rfl
      · have e : ¬ n % (1 + (i : Int)) = 0 := fun q => h (decide_eq_true (congrArg V.int q))
        rw [if_neg (by rw [beq_iff_eq]; exact e), List.append_nil] at es
        intro _
        rw [es]
        exact ⟨s5, hD'⟩
    · rintro H' hP
      rw [eN] at hP
      obtain ⟨s5, hD'⟩ := hP (by omega)
      exact k H' D s5 hD'
/-! ### value_at -/
theorem scVa : FnScope ["p", "above", "below", "value", "power", "part"] ["p", "above", "below"] (defScope s_value_at) := ⟨rfl, rfl, rfl, by decide +kernel, rfl, by decide +kernel, by decide +kernel⟩
theorem drop_at {xs : List Int} {i : Nat} {z : Int} (hi : i < xs.length) (h : xs[xs.length - 1 - i]? = some z) : xs.drop (xs.length - (i + 1)) = z :: xs.drop (xs.length - i) := by
  have l : xs.length - 1 - i < xs.length := by omega
  rw [List.getElem?_eq_getElem l] at h
  have e := Option.some.inj h
  rw [show xs.length - (i + 1) = xs.length - 1 - i by omega, show xs.length - i = xs.length - 1 - i + 1 by omega, ← e]
  exact List.drop_eq_getElem_cons l
theorem ok_val {f : Addr} {fd : FuncData} (F : Fun K "value_at" "value_at" s_value_at f fd) (T : Txt mg) : FnOk P w K mg base CX0 1 f fd ["p", "above", "below"] (spVal K) := by
  refine F.ok scVa (fun vs H Q E h => ?_) (fun cdv A outer s H vs Q E hr h => ?_)
  · obtain ⟨a, xs, x, y, rfl, _⟩ := h
    rfl
  · obtain ⟨a, xs, x, y, rfl, ha, hxs, hx, hy, k⟩ := h
    refine ⟨_, pss_cons (ps_set (i := 3) scVa.nd rfl (Or.inl rfl) pe_int)
      (pss_cons (ps_set (i := 4) scVa.nd rfl (Or.inl rfl) pe_int)
      (pss_cons (ps_for PassesOwn.never rfl (pi_reversed rfl T.rev (pa_cons (pv 0) pa_nil)) (pg_name (i := 5) scVa.nd rfl (Or.inl rfl))
        (pss_cons (ps_set (i := 3) scVa.nd rfl (Or.inl rfl) (pe_op op_add (pe_op op_mul (pv 3) (pv 1)) (pe_op op_mul (pv 5) (pv 4))))
        (pss_one (ps_set (i := 4) scVa.nd rfl (Or.inl rfl) (pe_op op_mul (pv 4) (pv 2))))))
      (pss_one (ps_ret (pv 3))))), ?_⟩
    refine ⟨_, rfl, a, _, rfl, ha, for_rev (K := K) (a := a) (xs := xs.map V.int) (fun i σ H' => i ≤ xs.length → H' = H ∧ ∃ v : Option V, σ = [some (.ref a), some (.int x), some (.int y), some (.int (Rt.H (xs.drop (xs.length - i)) x y)), some (.int (y ^ i)), v])
      (fun _ => ⟨rfl, Option.none, by rw [Nat.sub_zero, List.drop_length, Int.pow_zero]; rfl⟩) (fun i σ H' hi hP => by rw [List.length_map] at hi; obtain ⟨rfl, _⟩ := hP hi; exact ha) ?_ ?_⟩
    · rintro i c σ H' hi hc hP
      rw [List.length_map] at hi hc
      obtain ⟨rfl, v, rfl⟩ := hP (by omega)
      obtain ⟨z, hz, rfl⟩ := ints_at hc
      have hz2 := hxs z (List.mem_of_getElem? hz)
      refine ⟨_, rfl, _, rfl, _, _, rfl, rfl, .inr ⟨by omega, by omega⟩, _, rfl, _, rfl, _, _, rfl, rfl, .inl ⟨by omega, by omega⟩, _, _, rfl, rfl, ?_⟩
      refine ⟨_, rfl, _, rfl, _, _, rfl, rfl, .inr ⟨by omega, by omega⟩, fun _ => ⟨rfl, some (V.int z), ?_⟩⟩
      rw [drop_at hi hz]
      have el : (xs.drop (xs.length - i)).length = i := by rw [List.length_drop]; omega
      have e1 : Rt.H (z :: xs.drop (xs.length - i)) x y = Rt.H (xs.drop (xs.length - i)) x y * x + z * y ^ i := by
        show z * y ^ (xs.drop (xs.length - i)).length + x * Rt.H (xs.drop (xs.length - i)) x y = _
        rw [el, Int.mul_comm x, Int.add_comm]
      rw [e1, Int.pow_succ]
      rfl
    · rintro σ H' hP
      rw [List.length_map] at hP
      obtain ⟨rfl, v, rfl⟩ := hP (Nat.le_refl _)
      refine ⟨_, rfl, ?_⟩
      rw [Nat.sub_self, List.drop_zero]
      exact k
/-! ### fraction_where_zero -/
theorem scFr : FnScope ["p", "numbers_above", "below", "above"] ["p"] (defScope s_fraction_where_zero) := ⟨rfl, rfl, rfl, by decide +kernel, rfl, by decide +kernel, by decide +kernel⟩
theorem first_at {xs : List Int} (h : xs ≠ []) : xs[0]? = some (xs.getD 0 0) := by
  cases xs with
  | nil => exact (h rfl).elim
  | cons x l => rfl
theorem getD_in {xs : List Int} (h : xs ≠ []) : xs.getD 0 0 ∈ xs := List.mem_of_getElem? (first_at h)
theorem last_in {xs : List Int} (h : xs ≠ []) : xs.getLastD 0 ∈ xs := by
  cases xs with
  | nil => exact (h rfl).elim
  | cons x l =>
    show (x :: l).getLast (by simp) ∈ x :: l
    exact List.getLast_mem _
theorem div_small {n t : Int} {i : Nat} (h : (Qt.divI n)[i]? = some t) : 1 ≤ t ∧ t ≤ 4474 ∧ n % t = 0 := by
  have := Qt.mem_divI.mp (List.mem_of_getElem? h)
  exact ⟨this.1, this.2.2.1, this.2.2.2⟩
theorem ok_frac {f fD fV : Addr} {fd fdD fdV : FuncData} (F : Fun K "fraction_where_zero" "fraction_where_zero" s_fraction_where_zero f fd) (T : Txt mg) (DD : Dn K mg "divisors" s_divisors ["n"] fD fdD) (DV : Dn K mg "value_at" s_value_at ["p", "above", "below"] fV fdV) :
    FnOk P w K mg base CX0 2 f fd ["p"] (spFrac K) := by
  have GD : FnOk P w K mg base CX0 1 fD fdD ["n"] spDiv := ok_div DD.F T
  have GV : FnOk P w K mg base CX0 1 fV fdV ["p", "above", "below"] (spVal K) := ok_val DV.F T
  refine F.ok scFr (fun vs H Q E h => ?_) (fun cdv A outer s H vs Q E hr h => ?_)
  · obtain ⟨a, xs, rfl, _⟩ := h
    rfl
  · obtain ⟨a, xs, rfl, ha, hn, hxs, k⟩ := h
    refine ⟨_, pss_cons (ps_if (pt_cmpR op_eq (pe_at (j := 0) rfl (pv 0)) pe_int (nomark _)) (pss_one (ps_ret (pe_tup (pa_cons pe_int (pa_cons pe_int pa_nil))))) pss_nil)
      (pss_cons (ps_set (i := 1) scFr.nd rfl (Or.inl rfl) (pe_call GD hr rfl DD.m DD.F.kp DD.b .nil pass0 (pa_cons (pe_at (j := 0) rfl (pv 0)) pa_nil)))
      (pss_cons (ps_for PassesOwn.never rfl (pi_list (pe_call GD hr rfl DD.m DD.F.kp DD.b .nil pass0 (pa_cons (pe_last (pv 0)) pa_nil))) (pg_name (i := 2) scFr.nd rfl (Or.inl rfl))
        (pss_one (ps_for PassesOwn.never rfl (pi_list (pv 1)) (pg_name (i := 3) scFr.nd rfl (Or.inl rfl))
          (pss_cons (ps_if (pt_cmpR op_eq (pe_call GV hr rfl DV.m DV.F.kp DV.b .nil pass0 (pa_cons (pv 0) (pa_cons (pv 3) (pa_cons (pv 2) pa_nil)))) pe_int (nomark _)) (pss_one (ps_ret (pe_tup (pa_cons (pv 3) (pa_cons (pv 2) pa_nil))))) pss_nil)
          (pss_one (ps_if (pt_cmpR op_eq (pe_call GV hr rfl DV.m DV.F.kp DV.b .nil pass0 (pa_cons (pv 0) (pa_cons (pe_un un_neg (pv 3)) (pa_cons (pv 2) pa_nil)))) pe_int (nomark _)) (pss_one (ps_ret (pe_tup (pa_cons (pe_un un_neg (pv 3)) (pa_cons (pv 2) pa_nil))))) pss_nil))))))
      (pss_one (ps_ret pe_non)))), ?_⟩
    have h0 := first_at hn
    have b0 := hxs _ (getD_in hn)
    have b1 := hxs _ (last_in hn)
    -- if p[0] == 0
    refine ⟨a, xs, _, rfl, ha, h0, rfl, _, rfl, ite2 (fun h => ?_) (fun h => ?_)⟩
    · have e : xs.getD 0 0 = 0 := V.int.inj (of_decide_eq_true h)
      refine ⟨(by show 2 ≤ sizeLine; decide), fun t ht => k _ _ (some (0, 1)) (same_upd (Same.refl H) ht) ⟨t, rfl, upd_same⟩ ⟨?_, by decide, Int.emod_one _, by decide⟩⟩
      cases xs with
      | nil => exact (hn rfl).elim
      | cons c l =>
        have e : c = 0 := e
        show c * 1 ^ l.length + 0 * Rt.H l 0 1 = 0
        rw [e]
        simp
    · have p0 : ¬ xs.getD 0 0 = 0 := fun q => h (decide_eq_true (congrArg V.int q))
      -- numbers_above
      refine ⟨a, xs, _, rfl, ha, h0, _, rfl, by omega, fun H1 nA s1 q1 => ?_⟩
      refine ⟨a, xs, rfl, s1.seq ha, hn, _, rfl, by omega, fun H2 bA s2 q2 => ?_⟩
      have t2 := s1.trans s2
      have iN : InL K H2 nA (Qt.divI (xs.getD 0 0)) := s2.seq (InL.of q1)
      refine ⟨bA, rfl, ⟨_, InL.of q2⟩, for_list (K := K) (a := bA) (xs := (Qt.divI (xs.getLastD 0)).map V.int)
        (fun i σ H' => Same H2 H' ∧ ∃ v1 v2 : Option V, σ = [some (.ref a), some (.ref nA), v1, v2] ∧ ∀ j y, j < i → (Qt.divI (xs.getLastD 0))[j]? = some y → ∀ x, x ∈ Qt.divI (xs.getD 0 0) → Rt.H xs x y ≠ 0 ∧ Rt.H xs (-x) y ≠ 0)
        ⟨Same.refl _, _, _, rfl, fun j y hj => absurd hj (Nat.not_lt_zero j)⟩ (fun i σ H' _ hP => hP.1.seq (InL.of q2)) ?_ ?_⟩
      · rintro i yv σ H' hy ⟨s3, v1, v2, rfl, all⟩
        obtain ⟨y, hy2, rfl⟩ := ints_at hy
        obtain ⟨y1, y2, y3⟩ := div_small hy2
        refine ⟨_, rfl, nA, rfl, ⟨_, s3.seq iN⟩, for_list (K := K) (a := nA) (xs := (Qt.divI (xs.getD 0 0)).map V.int)
          (fun i2 σ H'' => Same H2 H'' ∧ ∃ v2 : Option V, σ = [some (.ref a), some (.ref nA), some (.int y), v2] ∧ ∀ j x, j < i2 → (Qt.divI (xs.getD 0 0))[j]? = some x → Rt.H xs x y ≠ 0 ∧ Rt.H xs (-x) y ≠ 0)
          ⟨s3, _, rfl, fun j y hj => absurd hj (Nat.not_lt_zero j)⟩ (fun i σ H' _ hP => hP.1.seq iN) ?_ ?_⟩
        · rintro i2 xv σ H'' hx ⟨s4, v3, rfl, all2⟩
          obtain ⟨x, hx2, rfl⟩ := ints_at hx
          obtain ⟨x1, x2, x3⟩ := div_small hx2
          have t4 : Same H H'' := t2.trans s4
          refine ⟨_, rfl, _, rfl, _, rfl, a, xs, x, y, rfl, t4.seq ha, hxs, ⟨by omega, by omega⟩, ⟨by omega, by omega⟩, rfl, _, rfl, ite2 (fun h => ?_) (fun h => ?_)⟩
          · have e : Rt.H xs x y = 0 := V.int.inj (of_decide_eq_true h)
            refine ⟨_, rfl, _, rfl, (by show 2 ≤ sizeLine; decide), fun t ht => k _ _ (some (x, y)) (same_upd t4 ht) ⟨t, rfl, upd_same⟩ ⟨e, y1, y3, by show x.natAbs ≤ 4474; omega⟩⟩
          · have e : ¬ Rt.H xs x y = 0 := fun q => h (decide_eq_true (congrArg V.int q))
            refine ⟨_, rfl, _, rfl, _, rfl, _, rfl, a, xs, -x, y, rfl, t4.seq ha, hxs, ⟨by omega, by omega⟩, ⟨by omega, by omega⟩, rfl, _, rfl, ite2 (fun h => ?_) (fun h => ?_)⟩
            · have e2 : Rt.H xs (-x) y = 0 := V.int.inj (of_decide_eq_true h)
              refine ⟨_, rfl, _, rfl, _, rfl, (by show 2 ≤ sizeLine; decide), fun t ht => k _ _ (some (-x, y)) (same_upd t4 ht) ⟨t, rfl, upd_same⟩ ⟨e2, y1, y3, by show (-x).natAbs ≤ 4474; omega⟩⟩
            · have e2 : ¬ Rt.H xs (-x) y = 0 := fun q => h (decide_eq_true (congrArg V.int q))
              refine ⟨s4, _, rfl, fun j x' hj hx' => ?_⟩
              by_cases ej : j = i2
              · subst ej
                have : x = x' := Option.some.inj (hx2.symm.trans hx')
                subst this
                exact ⟨e, e2⟩
              · exact all2 j x' (by omega) hx'
        · rintro σ H'' ⟨s4, v3, rfl, all2⟩
          rw [List.length_map] at all2
          refine ⟨s4, _, _, rfl, fun j y' hj hy' x hx => ?_⟩
          by_cases ej : j = i
          · subst ej
            have : y = y' := Option.some.inj (hy2.symm.trans hy')
            subst this
            obtain ⟨j2, hj2⟩ := List.mem_iff_getElem?.mp hx
            exact all2 j2 x ((List.getElem?_eq_some_iff.mp hj2).1) hj2
          · exact all j y' (by omega) hy' x hx
      · rintro σ H' ⟨s3, v1, v2, rfl, all⟩
        rw [List.length_map] at all
        refine k H' .non none (t2.trans s3) rfl ⟨p0, fun x y hx hy => ?_⟩
        obtain ⟨j2, hj2⟩ := List.mem_iff_getElem?.mp hy
        exact all j2 y ((List.getElem?_eq_some_iff.mp hj2).1) hj2 x hx
/-! ### resolvent -/
theorem scRe : FnScope ["p"] ["p"] (defScope s_resolvent) := ⟨rfl, rfl, rfl, by decide +kernel, rfl, by decide +kernel, by decide +kernel⟩
theorem ok_res {f : Addr} {fd : FuncData} (F : Fun K "resolvent" "resolvent" s_resolvent f fd) : FnOk P w K mg base CX0 1 f fd ["p"] (spRes K) := by
  refine F.ok scRe (fun vs H Q E h => ?_) (fun cdv A outer s H vs Q E hr h => ?_)
  · obtain ⟨A, a, b, c, d, e, rfl, _⟩ := h
    rfl
  · obtain ⟨A, a, b, c, d, e, rfl, hA, hB, k⟩ := h
    have ba := hB a (by simp)
    have bb := hB b (by simp)
    have bc := hB c (by simp)
    have bd := hB d (by simp)
    have be := hB e (by simp)
    refine ⟨_, pss_one (ps_ret (pe_lst (pa_cons
      (pe_op op_sub (pe_op op_sub (pe_op op_mul (pe_op op_mul (pe_op op_mul pe_int (pe_at (j := 0) rfl (pv 0))) (pe_at (j := 2) rfl (pv 0))) (pe_at (j := 4) rfl (pv 0)))
        (pe_op op_mul (pe_op op_mul (pe_at (j := 0) rfl (pv 0)) (pe_at (j := 3) rfl (pv 0))) (pe_at (j := 3) rfl (pv 0))))
        (pe_op op_mul (pe_op op_mul (pe_at (j := 1) rfl (pv 0)) (pe_at (j := 1) rfl (pv 0))) (pe_at (j := 4) rfl (pv 0))))
      (pa_cons (pe_op op_sub (pe_op op_mul (pe_at (j := 1) rfl (pv 0)) (pe_at (j := 3) rfl (pv 0))) (pe_op op_mul (pe_op op_mul pe_int (pe_at (j := 0) rfl (pv 0))) (pe_at (j := 4) rfl (pv 0))))
      (pa_cons (pe_un un_neg (pe_at (j := 2) rfl (pv 0))) (pa_cons pe_int pa_nil)))))), ?_⟩
    refine ⟨A, _, e, rfl, hA, rfl, _, _, rfl, rfl, .inr ⟨by omega, by omega⟩, ?_⟩
    refine ⟨A, _, c, rfl, hA, rfl, _, _, rfl, rfl, .inr ⟨by omega, by omega⟩, ?_⟩
    refine ⟨A, _, a, rfl, hA, rfl, _, _, rfl, rfl, .inr ⟨by omega, by omega⟩, ?_⟩
    refine ⟨A, _, e, rfl, hA, rfl, A, _, b, rfl, hA, rfl, _, _, rfl, rfl, .inr ⟨by omega, by omega⟩, ?_⟩
    refine ⟨A, _, b, rfl, hA, rfl, _, _, rfl, rfl, .inr ⟨by omega, by omega⟩, _, _, rfl, rfl, ?_⟩
    refine ⟨A, _, d, rfl, hA, rfl, A, _, d, rfl, hA, rfl, _, _, rfl, rfl, .inr ⟨by omega, by omega⟩, ?_⟩
    refine ⟨A, _, a, rfl, hA, rfl, _, _, rfl, rfl, .inr ⟨by omega, by omega⟩, _, _, rfl, rfl, ?_⟩
    refine ⟨A, _, d, rfl, hA, rfl, A, _, b, rfl, hA, rfl, _, _, rfl, rfl, .inr ⟨by omega, by omega⟩, ?_⟩
    refine ⟨A, _, e, rfl, hA, rfl, _, _, rfl, rfl, .inr ⟨by omega, by omega⟩, ?_⟩
    refine ⟨A, _, a, rfl, hA, rfl, _, _, rfl, rfl, .inr ⟨by omega, by omega⟩, _, _, rfl, rfl, ?_⟩
    refine ⟨A, _, c, rfl, hA, rfl, _, rfl, ?_⟩
    exact ⟨(by show 4 ≤ sizeLine; decide), fun p hp => k _ p (same_upd (Same.refl H) hp) upd_same⟩
end
end Cp

/-! is_zero_somewhere, is_cubic_or_quartic, is_zero_at_reached, root. -/
set_option Elab.async false
set_option linter.all false
set_option maxRecDepth 100000
set_option maxHeartbeats 4000000
namespace Cp
open PySem PySem.Spec PyProof.Rows L2
def spZero (K : PySem.W.Frag) : Sp := fun vs H Q _ => ∃ (A : Addr) (a b c d e z : Int), vs = [.ref A, .int z] ∧ InL K H A [e, d, c, b, a] ∧ (∀ x ∈ [e, d, c, b, a], -1000 ≤ x ∧ x ≤ 1000) ∧ z.natAbs ≤ 4474 ∧ ∀ H' : Hp, Same H H' → Q (.bl (Qt.zeroI a b c d e z)) H'
def spCub (K : PySem.W.Frag) : Sp := fun vs H Q _ => ∃ (A : Addr) (xs : List Int), vs = [.ref A] ∧ InL K H A xs ∧ xs.length ≤ 20 ∧ ∀ H' : Hp, Same H H' → Q (.bl (Qt.okI xs)) H'
def spReach (K : PySem.W.Frag) : Sp := fun vs H Q _ => ∃ (A : Addr) (xs : List Int), vs = [.ref A] ∧ InL K H A xs ∧ Qt.OkP xs ∧ ∀ H' : Hp, Same H H' → Q (.bl (Se04.reached xs)) H'
def spRt (K : PySem.W.Frag) : Sp := fun vs H Q _ => ∃ (A : Addr) (xs : List Int), vs = [.ref A] ∧ InL K H A xs ∧ xs.length ≤ 20 ∧ ∀ (H' : Hp) (p : Addr), H' p = some (.lst ((PySe04.root xs).map V.int)) → Q (.ref p) H'
/-- the sizes within is_zero_somewhere -/
structure Sz (a b c d e z m n o : Int) : Prop where
  hm : m.natAbs ≤ 23000000
  hn : n.natAbs ≤ 6500000
  ho : o.natAbs ≤ 25000000
  hx : (m * (b * b + m - 8 * a * z)).natAbs < 2 ^ 100
  hy : (absI (8 * a * n - 2 * b * m)).natAbs < 2 ^ 100
  hx0 : (b * b - 8 * a * z).natAbs < 2 ^ 100
theorem lt_100 {x : Nat} (h : x ≤ 2000000000000000) : x < 2 ^ 100 := Nat.lt_of_le_of_lt h (by decide)
theorem abs_abs (x : Int) : (absI x).natAbs = x.natAbs := by unfold absI; split <;> omega
theorem sz {a b c d e z : Int} (ha : a.natAbs ≤ 1000) (hb : b.natAbs ≤ 1000) (hc : c.natAbs ≤ 1000) (hd : d.natAbs ≤ 1000) (he : e.natAbs ≤ 1000) (hz : z.natAbs ≤ 4474) : Sz a b c d e z (b * b - 4 * a * c + 4 * a * z) (b * z - 2 * a * d) (z * z - 4 * a * e) := by
  have a4 : (4 * a).natAbs ≤ 4000 := by omega
  have a2 : (2 * a).natAbs ≤ 2000 := by omega
  have a8 : (8 * a).natAbs ≤ 8000 := by omega
  have b2 : (2 * b).natAbs ≤ 2000 := by omega
  have t1 := Qt.abs2 hb hb
  have t2 := Qt.abs2 a4 hc
  have t3 := Qt.abs2 a4 hz
  have t4 := Qt.abs2 hb hz
  have t5 := Qt.abs2 a2 hd
  have t6 := Qt.abs2 hz hz
  have t7 := Qt.abs2 a4 he
  have t8 := Qt.abs2 a8 hz
  have hm : (b * b - 4 * a * c + 4 * a * z).natAbs ≤ 23000000 := by
    generalize b * b = x1 at *
    generalize 4 * a * c = x2 at *
    generalize 4 * a * z = x3 at *
    omega
  have hn : (b * z - 2 * a * d).natAbs ≤ 6500000 := by
    generalize b * z = x1 at *
    generalize 2 * a * d = x2 at *
    omega
  have ho : (z * z - 4 * a * e).natAbs ≤ 25000000 := by
    generalize z * z = x1 at *
    generalize 4 * a * e = x2 at *
    omega
  generalize b * b - 4 * a * c + 4 * a * z = m at *
  generalize b * z - 2 * a * d = n at *
  generalize z * z - 4 * a * e = o at *
  have hx : (b * b + m - 8 * a * z).natAbs ≤ 60000000 := by
    generalize b * b = x1 at *
    generalize 8 * a * z = x2 at *
    omega
  have t9 := Qt.abs2 a8 hn
  have t10 := Qt.abs2 b2 hm
  refine ⟨hm, hn, ho, lt_100 (Nat.le_trans (Qt.abs2 hm hx) (by decide)), ?_, ?_⟩
  · rw [abs_abs]
    refine lt_100 ?_
    generalize 8 * a * n = x1 at *
    generalize 2 * b * m = x2 at *
    omega
  · refine lt_100 ?_
    generalize b * b = x1 at *
    generalize 8 * a * z = x2 at *
    omega
section
variable {P : Program} {w : World} {K : PySem.W.Frag} {mg : Str → Option Value} {base : Heap}
/-! ### is_zero_somewhere -/
theorem scZe : FnScope ["p", "z", "a", "b", "m", "n", "w"] ["p", "z"] (defScope s_is_zero_somewhere) := ⟨rfl, rfl, rfl, by decide +kernel, rfl, by decide +kernel, by decide +kernel⟩
theorem ok_zero {f fS : Addr} {fd fdS : FuncData} (F : Fun K "is_zero_somewhere" "is_zero_somewhere" s_is_zero_somewhere f fd) (T : Txt mg) (DS : Dn K mg "side_of_zero" s_side_of_zero ["d", "x"] fS fdS)
    (GS : FnOk P w K mg base CX0 3 fS fdS ["d", "x"] (spS1 K)) : FnOk P w K mg base CX0 4 f fd ["p", "z"] (spZero K) := by
  refine F.ok scZe (fun vs H Q E h => ?_) (fun cdv A outer s H vs Q E hr h => ?_)
  · obtain ⟨A, a, b, c, d, e, z, rfl, _⟩ := h
    rfl
  · obtain ⟨A, a, b, c, d, e, z, rfl, hA, hB, hz, k⟩ := h
    have ba := hB a (by simp)
    have bb := hB b (by simp)
    have bc := hB c (by simp)
    have bd := hB d (by simp)
    have be := hB e (by simp)
    have S := sz (a := a) (b := b) (c := c) (d := d) (e := e) (z := z) (by omega) (by omega) (by omega) (by omega) (by omega) hz
    refine ⟨_, pss_cons (ps_set (i := 2) scZe.nd rfl (Or.inl rfl) (pe_at (j := 4) rfl (pv 0)))
      (pss_cons (ps_set (i := 3) scZe.nd rfl (Or.inl rfl) (pe_at (j := 3) rfl (pv 0)))
      (pss_cons (ps_set (i := 4) scZe.nd rfl (Or.inl rfl) (pe_op op_add (pe_op op_sub (pe_op op_mul (pv 3) (pv 3)) (pe_op op_mul (pe_op op_mul pe_int (pv 2)) (pe_at (j := 2) rfl (pv 0)))) (pe_op op_mul (pe_op op_mul pe_int (pv 2)) (pv 1))))
      (pss_cons (ps_set (i := 5) scZe.nd rfl (Or.inl rfl) (pe_op op_sub (pe_op op_mul (pv 3) (pv 1)) (pe_op op_mul (pe_op op_mul pe_int (pv 2)) (pe_at (j := 1) rfl (pv 0)))))
      (pss_cons (ps_set (i := 6) scZe.nd rfl (Or.inl rfl) (pe_op op_sub (pe_op op_mul (pv 1) (pv 1)) (pe_op op_mul (pe_op op_mul pe_int (pv 2)) (pe_at (j := 0) rfl (pv 0)))))
      (pss_cons (ps_if (pt_cmpR op_gt (pv 4) pe_int (nomark _)) (pss_one (ps_ret (pe_cmpR op_ge (pe_call GS hr rfl DS.m DS.F.kp DS.b .nil pass0 (pa_cons (pe_lst (pa_cons (pv 4) pa_nil)) (pa_cons (pe_lst
          (pa_cons (pe_op op_mul (pv 4) (pe_op op_sub (pe_op op_add (pe_op op_mul (pv 3) (pv 3)) (pv 4)) (pe_op op_mul (pe_op op_mul pe_int (pv 2)) (pv 1))))
          (pa_cons (pe_callB call_abs rfl T.abs boot_abs (pa_cons (pe_op op_sub (pe_op op_mul (pe_op op_mul pe_int (pv 2)) (pv 5)) (pe_op op_mul (pe_op op_mul pe_int (pv 3)) (pv 4))) pa_nil)) pa_nil))) pa_nil))) pe_int (nomark _)))) pss_nil)
      (pss_cons (ps_if (PW.pt (pw_and (pt_cmpR op_eq (pv 4) pe_int (nomark _)) (pw_and1 (pt_cmpR op_ge (pv 6) pe_int (nomark _))))) (pss_one (ps_ret (pe_cmpR op_ge (pe_call GS hr rfl DS.m DS.F.kp DS.b .nil pass0 (pa_cons (pe_lst (pa_cons (pv 6) pa_nil)) (pa_cons (pe_lst
          (pa_cons (pe_op op_sub (pe_op op_mul (pv 3) (pv 3)) (pe_op op_mul (pe_op op_mul pe_int (pv 2)) (pv 1)))
          (pa_cons (pe_callB call_abs rfl T.abs boot_abs (pa_cons (pe_op op_mul pe_int (pv 2)) pa_nil)) pa_nil))) pa_nil))) pe_int (nomark _)))) pss_nil)
      (pss_one (ps_ret pe_bl)))))))), ?_⟩
    refine ⟨A, _, a, rfl, hA, rfl, ?_⟩
    refine ⟨A, _, b, rfl, hA, rfl, ?_⟩
    -- m
    refine ⟨_, rfl, _, rfl, _, _, rfl, rfl, .inr ⟨by omega, by omega⟩, _, rfl, _, _, rfl, rfl, .inr ⟨by omega, by omega⟩, A, _, c, rfl, hA, rfl, _, _, rfl, rfl, .inr ⟨by omega, by omega⟩, _, _, rfl, rfl, ?_⟩
    refine ⟨_, rfl, _, _, rfl, rfl, .inr ⟨by omega, by omega⟩, _, rfl, _, _, rfl, rfl, .inr ⟨by omega, by omega⟩, _, _, rfl, rfl, ?_⟩
    -- n
    refine ⟨_, rfl, _, rfl, _, _, rfl, rfl, .inr ⟨by omega, by omega⟩, _, rfl, _, _, rfl, rfl, .inr ⟨by omega, by omega⟩, A, _, d, rfl, hA, rfl, _, _, rfl, rfl, .inr ⟨by omega, by omega⟩, _, _, rfl, rfl, ?_⟩
    -- w
    refine ⟨_, rfl, _, rfl, _, _, rfl, rfl, .inr ⟨by omega, by omega⟩, _, rfl, _, _, rfl, rfl, .inr ⟨by omega, by omega⟩, A, _, e, rfl, hA, rfl, _, _, rfl, rfl, .inr ⟨by omega, by omega⟩, _, _, rfl, rfl, ?_⟩
    unfold Qt.zeroI at k
    dsimp only at k
    dsimp only
    generalize b * b - 4 * a * c + 4 * a * z = m at S k ⊢
    generalize b * z - 2 * a * d = n at S k ⊢
    generalize z * z - 4 * a * e = o at S k ⊢
    have Sm := S.hm
    have So := S.ho
    refine ⟨_, rfl, _, _, rfl, rfl, _, rfl, ite2 (fun h => ?_) (fun h => ?_)⟩
    · have m0 : 0 < m := of_decide_eq_true h
      rw [if_pos m0] at k
      refine ⟨_, rfl, (by show 1 ≤ sizeLine; decide), fun dA hdA => ?_⟩
      have s1 : Same H (upd H dA (.lst [V.int m])) := same_upd (Same.refl H) hdA
      refine ⟨_, rfl, _, rfl, _, rfl, _, _, rfl, rfl, .inr ⟨by omega, by omega⟩, _, rfl, _, _, rfl, rfl, ?_⟩
      refine ⟨_, rfl, _, _, rfl, rfl, .inr ⟨by omega, by omega⟩, _, rfl, _, _, rfl, rfl, .inr ⟨by omega, by omega⟩, _, _, rfl, rfl, ?_⟩
      refine ⟨_, _, rfl, rfl, .inl ⟨by omega, by omega⟩, ?_⟩
      refine ⟨_, rfl, _, _, rfl, rfl, .inr ⟨by omega, by omega⟩, _, rfl, _, _, rfl, rfl, .inl ⟨by omega, by omega⟩, ?_⟩
      refine ⟨_, rfl, _, _, rfl, rfl, .inr ⟨by omega, by omega⟩, _, rfl, _, _, rfl, rfl, .inl ⟨by omega, by omega⟩, _, _, rfl, rfl, ?_⟩
      refine ⟨_, rfl, (by show 2 ≤ sizeLine; decide), fun xA hxA => ?_⟩
      have s2 := same_upd (o := .lst [V.int (m * (b * b + m - 8 * a * z)), V.int (absI (8 * a * n - 2 * b * m))]) (Same.refl _) hxA
      refine ⟨dA, xA, m, m * (b * b + m - 8 * a * z), absI (8 * a * n - 2 * b * m), rfl, InL.of (xs := [m]) (s2 _ _ upd_same), InL.of (xs := [m * (b * b + m - 8 * a * z), absI (8 * a * n - 2 * b * m)]) upd_same, S.hx, S.hy, lt_100 (by omega), fun H3 s3 => ?_⟩
      exact ⟨_, _, rfl, rfl, k H3 ((s1.trans s2).trans s3)⟩
    · have m0 : ¬ 0 < m := fun q => h (decide_eq_true q)
      rw [if_neg m0] at k
      have no : ¬ (m = 0 ∧ 0 ≤ o) → Q (.bl false) H := fun q => by
        have t := k H (Same.refl H)
        rw [if_neg q] at t
        exact t
      refine ⟨_, rfl, rfl, _, rfl, ite2 (fun h2 => ?_) (fun h2 => iteF (no fun q => h2 (decide_eq_true (congrArg V.int q.1))))⟩
      refine ⟨_, rfl, _, _, rfl, rfl, _, rfl, ite2 (fun h3 => ?_) (fun h3 => no fun q => h3 (decide_eq_true q.2))⟩
      rw [if_pos ⟨V.int.inj (of_decide_eq_true h2), of_decide_eq_true h3⟩] at k
      refine ⟨_, rfl, (by show 1 ≤ sizeLine; decide), fun dA hdA => ?_⟩
      have s1 : Same H (upd H dA (.lst [V.int o])) := same_upd (Same.refl H) hdA
      refine ⟨_, rfl, _, rfl, _, _, rfl, rfl, .inr ⟨by omega, by omega⟩, ?_⟩
      refine ⟨_, rfl, _, _, rfl, rfl, .inr ⟨by omega, by omega⟩, _, rfl, _, _, rfl, rfl, .inr ⟨by omega, by omega⟩, _, _, rfl, rfl, ?_⟩
      refine ⟨_, rfl, _, _, rfl, rfl, .inr ⟨by omega, by omega⟩, ?_⟩
      refine ⟨_, rfl, (by show 2 ≤ sizeLine; decide), fun xA hxA => ?_⟩
      have s2 := same_upd (o := .lst [V.int (b * b - 8 * a * z), V.int (absI (8 * a))]) (Same.refl _) hxA
      refine ⟨dA, xA, o, b * b - 8 * a * z, absI (8 * a), rfl, InL.of (xs := [o]) (s2 _ _ upd_same), InL.of (xs := [b * b - 8 * a * z, absI (8 * a)]) upd_same, S.hx0, lt_100 (by rw [abs_abs]; omega), lt_100 (by omega), fun H3 s3 => ?_⟩
      exact ⟨_, _, rfl, rfl, k H3 ((s1.trans s2).trans s3)⟩
/-! ### is_cubic_or_quartic -/
theorem scCu : FnScope ["p"] ["p"] (defScope s_is_cubic_or_quartic) := ⟨rfl, rfl, rfl, by decide +kernel, rfl, by decide +kernel, by decide +kernel⟩
theorem ok_cub {f fI : Addr} {fd fdI : FuncData} (F : Fun K "is_cubic_or_quartic" "is_cubic_or_quartic" s_is_cubic_or_quartic f fd) (T : Txt mg) (DI : Dn K mg "is_row" s_is_row ["row", "length", "farthest"] fI fdI) : FnOk P w K mg base CX0 2 f fd ["p"] (spCub K) := by
  have GI : FnOk P w K mg base CX0 1 fI fdI ["row", "length", "farthest"] (spRow K) := ok_row DI.F T
  obtain ⟨t1, m1⟩ := T.cub
  obtain ⟨t2, m2⟩ := T.qua
  obtain ⟨t3, m3⟩ := T.farN
  refine F.ok scCu (fun vs H Q E h => ?_) (fun cdv A outer s H vs Q E hr h => ?_)
  · obtain ⟨A, xs, rfl, _⟩ := h
    rfl
  · obtain ⟨A, xs, rfl, hA, hl, k⟩ := h
    refine ⟨_, pss_cons (ps_if (PW.pt (pw_and (pt_cmpR op_ne (pe_len rfl T.len (pv 0)) (pe_glob (v := V.int 4) rfl m1 ⟨_, rfl⟩) (nomark _)) (pw_and1 (pt_cmpR op_ne (pe_len rfl T.len (pv 0)) (pe_glob (v := V.int 5) rfl m2 ⟨_, rfl⟩) (nomark _))))) (pss_one (ps_ret pe_bl)) pss_nil)
      (pss_one (ps_ret (pe_and (pe_call GI hr rfl DI.m DI.F.kp DI.b .nil pass0 (pa_cons (pv 0) (pa_cons (pe_len rfl T.len (pv 0)) (pa_cons (pe_glob (v := V.int 1000) rfl m3 ⟨_, rfl⟩) pa_nil))))
        (pe_one (pe_cmpR op_ne (pe_last (pv 0)) pe_int (nomark _)))))), ?_⟩
    unfold Qt.okI at k
    have rest : (xs.length = 4 ∨ xs.length = 5) → (∀ H', Same H H' → Q (.bl (Sf68.small 1000 xs && decide (xs.getLastD 0 ≠ 0))) H') := fun q H' s' => by
      have z := k H' s'
      have e : (decide (xs.length = 4) || decide (xs.length = 5)) = true := by
        rw [Bool.or_eq_true, decide_eq_true_eq, decide_eq_true_eq]
        exact q
      rw [e, Bool.true_and] at z
      exact z
    have tail : (xs.length = 4 ∨ xs.length = 5) → ∃ v, ([some (V.ref A)] : L2.St)[0]? = some (some v) ∧ ∃ (a' : Addr) (xs' : List Int), ([some (V.ref A)] : L2.St)[0]? = some (some (.ref a')) ∧ InL K H a' xs' ∧ True := fun _ => ⟨_, rfl, A, xs, rfl, hA, trivial⟩
    have go : (xs.length = 4 ∨ xs.length = 5) → rowI xs (xs.length : Int) 1000 = Sf68.small 1000 xs := fun _ => by
      have := row_eq xs xs.length 1000
      rw [show ((1000 : Nat) : Int) = 1000 from rfl] at this
      rw [this]
      simp
    have ne : (xs.length = 4 ∨ xs.length = 5) → xs ≠ [] := fun q z => by
      rw [z] at q
      simp at q
    refine ⟨A, xs, rfl, hA, rfl, _, rfl, ite2 (fun h => ?_) (fun h => iteF ?_)⟩
    · have e4 : ¬ xs.length = 4 := fun q => by
        rw [q] at h
        exact absurd h (by decide)
      refine ⟨A, xs, rfl, hA, rfl, _, rfl, ite2 (fun h2 => ?_) (fun h2 => ?_)⟩
      · have e5 : ¬ xs.length = 5 := fun q => by
          rw [q] at h2
          exact absurd h2 (by decide)
        have z := k H (Same.refl H)
        rw [decide_eq_false e4, decide_eq_false e5] at z
        exact z
      · have e5 : xs.length = 5 := by
          by_cases q : xs.length = 5
          · exact q
          · exact (h2 (by rw [decide_eq_false (fun z => q (by have e : ((xs.length : Nat) : Int) = 5 := V.int.inj z; omega))]; rfl)).elim
        have q : xs.length = 4 ∨ xs.length = 5 := .inr e5
        refine ⟨_, rfl, A, xs, rfl, hA, A, xs, _, _, rfl, hA, by omega, fun H1 s1 => ?_⟩
        have z := rest q
        rw [← go q] at z
        refine ⟨_, rfl, ?_⟩
        cases er : rowI xs (xs.length : Int) 1000 with
        | false =>
          rw [er] at z
          exact iteF (z H1 s1)
        | true =>
          rw [er] at z
          refine iteT ⟨A, xs, rfl, s1.seq hA, ne q, rfl, ?_⟩
          have z1 := z H1 s1
          rw [Bool.true_and] at z1
          by_cases e0 : xs.getLastD 0 = 0
          · rw [decide_eq_false (fun t => t e0)] at z1
            rw [decide_eq_true (congrArg V.int e0)]
            exact z1
          · rw [decide_eq_true e0] at z1
            rw [decide_eq_false (fun t => e0 (V.int.inj t))]
            exact z1
    · have e4 : xs.length = 4 := by
        by_cases q : xs.length = 4
        · exact q
        · exact (h (by rw [decide_eq_false (fun z => q (by have e : ((xs.length : Nat) : Int) = 4 := V.int.inj z; omega))]; rfl)).elim
      have q : xs.length = 4 ∨ xs.length = 5 := .inl e4
      refine ⟨_, rfl, A, xs, rfl, hA, A, xs, _, _, rfl, hA, by omega, fun H1 s1 => ?_⟩
      have z := rest q
      rw [← go q] at z
      refine ⟨_, rfl, ?_⟩
      cases er : rowI xs (xs.length : Int) 1000 with
      | false =>
        rw [er] at z
        exact iteF (z H1 s1)
      | true =>
        rw [er] at z
        refine iteT ⟨A, xs, rfl, s1.seq hA, ne q, rfl, ?_⟩
        have z1 := z H1 s1
        rw [Bool.true_and] at z1
        by_cases e0 : xs.getLastD 0 = 0
        · rw [decide_eq_false (fun t => t e0)] at z1
          rw [decide_eq_true (congrArg V.int e0)]
          exact z1
        · rw [decide_eq_true e0] at z1
          rw [decide_eq_false (fun t => e0 (V.int.inj t))]
          exact z1
/-! ### is_zero_at_reached -/
theorem scRc : FnScope ["p", "z"] ["p"] (defScope s_is_zero_at_reached) := ⟨rfl, rfl, rfl, by decide +kernel, rfl, by decide +kernel, by decide +kernel⟩
theorem small_all {xs : List Int} (h : Qt.OkP xs) : ∀ z ∈ xs, -1000 ≤ z ∧ z ≤ 1000 := fun z hz => by
  obtain ⟨i, hi⟩ := List.mem_iff_getElem?.mp hz
  have := h.sm i
  rw [List.getD_eq_getElem?_getD, hi] at this
  have : z.natAbs ≤ 1000 := this
  omega
theorem res_all {a b c d e : Int} (h : Qt.OkP [e, d, c, b, a]) : ∀ z ∈ Qt.resI a b c d e, -(2 ^ 60) < z ∧ z < 2 ^ 60 := fun z hz => by
  obtain ⟨s0, s1, s2⟩ := Qt.res_small (e := e) (d := d) (c := c) (b := b) (a := a) (h.sm 0) (h.sm 1) (h.sm 2) (h.sm 3) (h.sm 4)
  unfold Qt.resI at hz
  rcases List.mem_cons.mp hz with rfl | hz
  · omega
  · rcases List.mem_cons.mp hz with rfl | hz
    · omega
    · rcases List.mem_cons.mp hz with rfl | hz
      · omega
      · have := List.mem_singleton.mp hz
        omega
/-- t[0] of a pair of whole numbers -/
def tPF (i : Nat) : TE := fun σ H Q => ∃ (t : Addr) (x y : Int), σ[i]? = some (some (.ref t)) ∧ H t = some (.tup [.int x, .int y]) ∧ Q (.int x) H
theorem pe_pf {X : Cx} {e : Expr} {pos pos' : Pos} {i k : Nat} (he : PE X e (tVar i)) : PE X (.Subscript e (.Constant (.int 0) k pos') pos) (tPF i) :=
  pe_weak (pe_ix ix_tup he pe_int (fun _ _ => rfl)) fun σ H Q h => by
    obtain ⟨t, x, y, e1, ht, q⟩ := h
    exact ⟨_, e1, t, _, _, _, rfl, rfl, SqT.of ht, at_of (j := 0) rfl rfl, q⟩
theorem ok_reach {f fF fR fZ : Addr} {fd fdF fdR fdZ : FuncData} (F : Fun K "is_zero_at_reached" "is_zero_at_reached" s_is_zero_at_reached f fd) (T : Txt mg) (DF : Dn K mg "fraction_where_zero" s_fraction_where_zero ["p"] fF fdF) (DR : Dn K mg "resolvent" s_resolvent ["p"] fR fdR) (DZ : Dn K mg "is_zero_somewhere" s_is_zero_somewhere ["p", "z"] fZ fdZ)
    (GF : FnOk P w K mg base CX0 2 fF fdF ["p"] (spFrac K)) (GZ : FnOk P w K mg base CX0 4 fZ fdZ ["p", "z"] (spZero K)) : FnOk P w K mg base CX0 5 f fd ["p"] (spReach K) := by
  have GR : FnOk P w K mg base CX0 1 fR fdR ["p"] (spRes K) := ok_res DR.F
  obtain ⟨t1, m1⟩ := T.cub
  refine F.ok scRc (fun vs H Q E h => ?_) (fun cdv A outer s H vs Q E hr h => ?_)
  · obtain ⟨A, xs, rfl, _⟩ := h
    rfl
  · obtain ⟨A, xs, rfl, hA, ok, k⟩ := h
    have hr2 : Room 2 _ := hr.mono (by omega)
    have hr1 : Room 1 _ := hr.mono (by omega)
    refine ⟨_, pss_cons (ps_if (pt_cmpR op_notN (pe_call GF hr2 rfl DF.m DF.F.kp DF.b .nil pass0 (pa_cons (pv 0) pa_nil)) pe_non (nomark _)) (pss_one (ps_ret pe_bl)) pss_nil)
      (pss_cons (ps_if (pt_cmpR op_eq (pe_len rfl T.len (pv 0)) (pe_glob (v := V.int 4) rfl m1 ⟨_, rfl⟩) (nomark _)) (pss_one (ps_ret pe_bl)) pss_nil)
      (pss_cons (ps_set (i := 1) scRc.nd rfl (Or.inl rfl) (pe_call GF hr2 rfl DF.m DF.F.kp DF.b .nil pass0 (pa_cons (pe_call GR hr1 rfl DR.m DR.F.kp DR.b .nil pass0 (pa_cons (pv 0) pa_nil)) pa_nil)))
      (pss_cons (ps_if (pt_cmpR op_isN (pv 1) pe_non (nomark _)) (pss_one (ps_ret pe_bl)) pss_nil)
      (pss_one (ps_ret (pe_call GZ hr rfl DZ.m DZ.F.kp DZ.b .nil pass0 (pa_cons (pv 0) (pa_cons (pe_pf (pv 1)) pa_nil)))))))), ?_⟩
    have sm := small_all ok
    refine ⟨_, rfl, A, xs, rfl, hA, ok.ne, fun z hz => by have := sm z hz; omega, fun H1 v r s1 hv hr => ?_⟩
    refine ⟨rfl, _, rfl, ?_⟩
    cases r with
    | some g =>
      obtain ⟨t, rfl, ht⟩ := hv
      have z := k H1 s1
      rw [ok.found hr] at z
      exact iteNN ref_non z
    | none =>
      have hv : v = .non := hv
      subst hv
      refine iteNS rfl ?_
      refine ⟨A, xs, rfl, s1.seq hA, rfl, _, rfl, ite2 (fun h => ?_) (fun h => ?_)⟩
      · have e : ((xs.length : Nat) : Int) = 4 := V.int.inj (of_decide_eq_true h)
        have z := k H1 s1
        rw [ok.cubic hr (by omega)] at z
        exact z
      · have e : ¬ ((xs.length : Nat) : Int) = 4 := fun q => h (decide_eq_true (congrArg V.int q))
        have e5 : xs.length = 5 := by
          have := ok.len
          omega
        obtain ⟨e0, d0, c0, b0, a0, rfl, _⟩ := ok.five e5
        refine ⟨_, rfl, A, a0, b0, c0, d0, e0, rfl, s1.seq hA, sm, fun H2 rA s2 q2 => ?_⟩
        refine ⟨rA, Qt.resI a0 b0 c0 d0 e0, rfl, InL.of q2, (by unfold Qt.resI; simp), res_all ok, fun H3 v r s3 hv hr3 => ?_⟩
        have t3 : Same H H3 := s1.trans (s2.trans s3)
        refine ⟨_, rfl, rfl, _, rfl, ?_⟩
        cases r with
        | none =>
          have hv : v = .non := hv
          subst hv
          have z := k H3 t3
          rw [Qt.quartic_no ok hr hr3] at z
          exact iteD rfl z
        | some g =>
          obtain ⟨t, rfl, ht⟩ := hv
          obtain ⟨z, y⟩ := g
          obtain ⟨hre, near⟩ := Qt.quartic_at ok hr hr3
          refine iteDN ref_non ?_
          rw [hre] at k
          exact ⟨_, rfl, t, z, y, rfl, ht, A, a0, b0, c0, d0, e0, z, rfl, t3.seq hA, sm, near, fun H4 s4 => k H4 (t3.trans s4)⟩
/-! ### root -/
theorem scM : FnScope ["p"] ["p"] (defScope s_main) := ⟨rfl, rfl, rfl, by decide +kernel, rfl, by decide +kernel, by decide +kernel⟩
theorem ok_rt {f fC fE : Addr} {fd fdC fdE : FuncData} (F : Fun K "root" "root" s_main f fd) (T : Txt mg) (DC : Dn K mg "is_cubic_or_quartic" s_is_cubic_or_quartic ["p"] fC fdC) (DE : Dn K mg "is_zero_at_reached" s_is_zero_at_reached ["p"] fE fdE)
    (GC : FnOk P w K mg base CX0 2 fC fdC ["p"] (spCub K)) (GE : FnOk P w K mg base CX0 5 fE fdE ["p"] (spReach K)) : FnOk P w K mg base CX0 6 f fd ["p"] (spRt K) := by
  obtain ⟨t1, m1⟩ := T.notAll
  refine F.ok scM (fun vs H Q E h => ?_) (fun cdv A outer s H vs Q E hr h => ?_)
  · obtain ⟨A, xs, rfl, _⟩ := h
    rfl
  · obtain ⟨A, xs, rfl, hA, hl, kk⟩ := h
    have hr2 : Room 2 _ := hr.mono (by omega)
    refine ⟨_, pss_cons (ps_if (pt_not (pt_val (pe_call GC hr2 rfl DC.m DC.F.kp DC.b .nil pass0 (pa_cons (pv 0) pa_nil)))) (pss_one (ps_ret (pe_lst (pa_cons (pe_glob (v := V.int (-2)) rfl m1 ⟨_, rfl⟩) pa_nil)))) pss_nil)
      (pss_cons (ps_if (pt_val (pe_call GE hr rfl DE.m DE.F.kp DE.b .nil pass0 (pa_cons (pv 0) pa_nil))) (pss_one (ps_ret (pe_lst (pa_cons pe_int pa_nil)))) pss_nil)
      (pss_one (ps_ret (pe_lst (pa_cons pe_int pa_nil))))), ?_⟩
    have es := Qt.root_is xs
    refine ⟨_, rfl, A, xs, rfl, hA, hl, fun H1 s1 => ?_⟩
    refine ⟨_, rfl, ?_⟩
    cases eo : Qt.okI xs with
    | false =>
      rw [if_pos eo] at es
      refine iteT ⟨(by show 1 ≤ sizeLine; decide), fun p hp => kk _ p ?_⟩
      rw [es]
      exact upd_same
    | true =>
      rw [if_neg (by rw [eo]; exact Bool.noConfusion)] at es
      refine iteF ?_
      refine ⟨_, rfl, A, xs, rfl, s1.seq hA, Qt.okP eo, fun H2 s2 => ?_⟩
      refine ⟨_, rfl, ?_⟩
      cases er : Se04.reached xs with
      | true =>
        rw [if_pos er] at es
        refine iteT ⟨(by show 1 ≤ sizeLine; decide), fun p hp => kk _ p ?_⟩
        rw [es]
        exact upd_same
      | false =>
        rw [if_neg (by rw [er]; exact Bool.noConfusion)] at es
        refine iteF ⟨(by show 1 ≤ sizeLine; decide), fun p hp => kk _ p ?_⟩
        rw [es]
        exact upd_same
end
end Cp

/-! What the top has written, and the theorem. -/
set_option Elab.async false
set_option linter.all false
set_option maxRecDepth 100000
set_option maxHeartbeats 4000000
namespace Cp
open PySem PySem.Spec PyProof.Rows L2
open PySem.W (Codec)
theorem main_mk {P : Program} {w : World} {K : PySem.W.Frag} {h : Heap} {mg : Str → Option Value} {fa f : Addr} {od an : Option Addr} {sl : Array (Option Value)} {oc kV dc pm cd ct : Value} (X : K.In h) (G : h.Ns mainGlobals mg) (hfa : mg "root" = some (.ref fa)) (T : Txt mg)
    {f_is_row f_radicand f_side_of_zero f_side_of_whole f_norm f_product f_total f_difference f_is_cubic_or_quartic f_is_zero_at_reached f_fraction_where_zero f_divisors f_value_at f_resolvent f_is_zero_somewhere : Addr} {d_is_row d_radicand d_side_of_zero d_side_of_whole d_norm d_product d_total d_difference d_is_cubic_or_quartic d_is_zero_at_reached d_fraction_where_zero d_divisors d_value_at d_resolvent d_is_zero_somewhere : FuncData}
    (D_is_row : Dn K mg "is_row" s_is_row ["row", "length", "farthest"] f_is_row d_is_row) (D_radicand : Dn K mg "radicand" s_radicand ["d", "length"] f_radicand d_radicand) (D_side_of_zero : Dn K mg "side_of_zero" s_side_of_zero ["d", "x"] f_side_of_zero d_side_of_zero) (D_side_of_whole : Dn K mg "side_of_whole" s_side_of_whole ["n"] f_side_of_whole d_side_of_whole) (D_norm : Dn K mg "norm" s_norm ["d", "x"] f_norm d_norm) (D_product : Dn K mg "product" s_product ["d", "x", "y"] f_product d_product) (D_total : Dn K mg "total" s_total ["x", "y"] f_total d_total) (D_difference : Dn K mg "difference" s_difference ["x", "y"] f_difference d_difference) (D_is_cubic_or_quartic : Dn K mg "is_cubic_or_quartic" s_is_cubic_or_quartic ["p"] f_is_cubic_or_quartic d_is_cubic_or_quartic) (D_is_zero_at_reached : Dn K mg "is_zero_at_reached" s_is_zero_at_reached ["p"] f_is_zero_at_reached d_is_zero_at_reached) (D_fraction_where_zero : Dn K mg "fraction_where_zero" s_fraction_where_zero ["p"] f_fraction_where_zero d_fraction_where_zero) (D_divisors : Dn K mg "divisors" s_divisors ["n"] f_divisors d_divisors) (D_value_at : Dn K mg "value_at" s_value_at ["p", "above", "below"] f_value_at d_value_at) (D_resolvent : Dn K mg "resolvent" s_resolvent ["p"] f_resolvent d_resolvent) (D_is_zero_somewhere : Dn K mg "is_zero_somewhere" s_is_zero_somewhere ["p", "z"] f_is_zero_somewhere d_is_zero_somewhere)
    (a : PySem.W.nsIn K mainGlobals "root" = some (some (.ref f))) (l : K.lookup f = some ⟨oc, od, .func (PySem.W.fnOf "root" "root" (defArgs s_main) (defBody s_main) (defScope s_main) .none kV dc pm an cd ct), sl⟩)
    (c : PySem.W.codeIn K cd "root" = true) (k : PySem.W.keepIn K (.ref f) = true) :
    ∃ fd : FuncData, (∀ (s : Shared) (us : List Value), us.length = (["p"] : List Str).length → BindsTo s fd ⟨us, []⟩ ((["p"] : List Str).zip us)) ∧ ∀ base : Heap, K.In base → base.Ns mainGlobals mg → FnOk P w K mg base CX0 6 fa fd ["p"] (spRt K) := by
  have e := hfa.symm.trans (PySem.W.mg_of X G a)
  cases e
  have F := fun_mk (st := s_main) l c k
  refine ⟨PySem.W.fnOf "root" "root" (defArgs s_main) (defBody s_main) (defScope s_main) .none kV dc pm an cd ct, fun s us hu => match us, hu with | [_], _ => .of_eq rfl, fun base _ _ => ?_⟩
  have GS : FnOk P w K mg base CX0 3 f_side_of_zero d_side_of_zero ["d", "x"] (spS1 K) := ok_s1 D_side_of_zero T D_side_of_whole D_norm D_radicand D_difference D_product
  have GZ := ok_zero D_is_zero_somewhere.F T D_side_of_zero GS
  have GF : FnOk P w K mg base CX0 2 f_fraction_where_zero d_fraction_where_zero ["p"] (spFrac K) := ok_frac D_fraction_where_zero.F T D_divisors D_value_at
  have GE := ok_reach D_is_zero_at_reached.F T D_fraction_where_zero D_resolvent D_is_zero_somewhere GF GZ
  exact ok_rt F T D_is_cubic_or_quartic D_is_zero_at_reached (ok_cub D_is_cubic_or_quartic.F T D_is_row) GE
end Cp
open PySem PySem.W PyProof.Rows
set_option maxRecDepth 100000 in
set_option maxHeartbeats 0 in
theorem PySem.Challenge.cw_compasses_s06_root_holds : PySem.Challenge.rw_compasses_s06_root.Holds := by
  w_on; k_headS; (case hw => exact ⟨[.list []], by decide +kernel, by decide +kernel⟩)
  k_fillS
  refine L2.walk_specK (r := PySem.Challenge.rw_compasses_s06_root) (k := 6) (CX := L2.CX0) (ps := ["p"]) (sp := Cp.spRt) (by decide +kernel) rfl rfl ⟨rfl, by decide, by decide⟩ (fun w h Y => PySem.W.kIn_of Y) ?F ?S (fun _ _ _ _ z => z)
  case F =>
    intro w mg fa h Y KX G hmg
    obtain ⟨f_is_row, d_is_row, D_is_row⟩ : ∃ f fd, Cp.Dn _ mg "is_row" Cp.s_is_row ["row", "length", "farthest"] f fd := by
      refine' ⟨_, _, Cp.dn_mk KX G ?a ?l ?c ?k (fun _ _ _ _ _ _ us hl => match us, hl with | [_, _, _], _ => rfl)⟩
      (case a => k_is); (case l => k_is); (case c => k_is); (case k => k_is)
    obtain ⟨f_radicand, d_radicand, D_radicand⟩ : ∃ f fd, Cp.Dn _ mg "radicand" Cp.s_radicand ["d", "length"] f fd := by
      refine' ⟨_, _, Cp.dn_mk KX G ?a ?l ?c ?k (fun _ _ _ _ _ _ us hl => match us, hl with | [_, _], _ => rfl)⟩
      (case a => k_is); (case l => k_is); (case c => k_is); (case k => k_is)
    obtain ⟨f_side_of_zero, d_side_of_zero, D_side_of_zero⟩ : ∃ f fd, Cp.Dn _ mg "side_of_zero" Cp.s_side_of_zero ["d", "x"] f fd := by
      refine' ⟨_, _, Cp.dn_mk KX G ?a ?l ?c ?k (fun _ _ _ _ _ _ us hl => match us, hl with | [_, _], _ => rfl)⟩
      (case a => k_is); (case l => k_is); (case c => k_is); (case k => k_is)
    obtain ⟨f_side_of_whole, d_side_of_whole, D_side_of_whole⟩ : ∃ f fd, Cp.Dn _ mg "side_of_whole" Cp.s_side_of_whole ["n"] f fd := by
      refine' ⟨_, _, Cp.dn_mk KX G ?a ?l ?c ?k (fun _ _ _ _ _ _ us hl => match us, hl with | [_], _ => rfl)⟩
      (case a => k_is); (case l => k_is); (case c => k_is); (case k => k_is)
    obtain ⟨f_norm, d_norm, D_norm⟩ : ∃ f fd, Cp.Dn _ mg "norm" Cp.s_norm ["d", "x"] f fd := by
      refine' ⟨_, _, Cp.dn_mk KX G ?a ?l ?c ?k (fun _ _ _ _ _ _ us hl => match us, hl with | [_, _], _ => rfl)⟩
      (case a => k_is); (case l => k_is); (case c => k_is); (case k => k_is)
    obtain ⟨f_product, d_product, D_product⟩ : ∃ f fd, Cp.Dn _ mg "product" Cp.s_product ["d", "x", "y"] f fd := by
      refine' ⟨_, _, Cp.dn_mk KX G ?a ?l ?c ?k (fun _ _ _ _ _ _ us hl => match us, hl with | [_, _, _], _ => rfl)⟩
      (case a => k_is); (case l => k_is); (case c => k_is); (case k => k_is)
    obtain ⟨f_total, d_total, D_total⟩ : ∃ f fd, Cp.Dn _ mg "total" Cp.s_total ["x", "y"] f fd := by
      refine' ⟨_, _, Cp.dn_mk KX G ?a ?l ?c ?k (fun _ _ _ _ _ _ us hl => match us, hl with | [_, _], _ => rfl)⟩
      (case a => k_is); (case l => k_is); (case c => k_is); (case k => k_is)
    obtain ⟨f_difference, d_difference, D_difference⟩ : ∃ f fd, Cp.Dn _ mg "difference" Cp.s_difference ["x", "y"] f fd := by
      refine' ⟨_, _, Cp.dn_mk KX G ?a ?l ?c ?k (fun _ _ _ _ _ _ us hl => match us, hl with | [_, _], _ => rfl)⟩
      (case a => k_is); (case l => k_is); (case c => k_is); (case k => k_is)
    obtain ⟨f_is_cubic_or_quartic, d_is_cubic_or_quartic, D_is_cubic_or_quartic⟩ : ∃ f fd, Cp.Dn _ mg "is_cubic_or_quartic" Cp.s_is_cubic_or_quartic ["p"] f fd := by
      refine' ⟨_, _, Cp.dn_mk KX G ?a ?l ?c ?k (fun _ _ _ _ _ _ us hl => match us, hl with | [_], _ => rfl)⟩
      (case a => k_is); (case l => k_is); (case c => k_is); (case k => k_is)
    obtain ⟨f_is_zero_at_reached, d_is_zero_at_reached, D_is_zero_at_reached⟩ : ∃ f fd, Cp.Dn _ mg "is_zero_at_reached" Cp.s_is_zero_at_reached ["p"] f fd := by
      refine' ⟨_, _, Cp.dn_mk KX G ?a ?l ?c ?k (fun _ _ _ _ _ _ us hl => match us, hl with | [_], _ => rfl)⟩
      (case a => k_is); (case l => k_is); (case c => k_is); (case k => k_is)
    obtain ⟨f_fraction_where_zero, d_fraction_where_zero, D_fraction_where_zero⟩ : ∃ f fd, Cp.Dn _ mg "fraction_where_zero" Cp.s_fraction_where_zero ["p"] f fd := by
      refine' ⟨_, _, Cp.dn_mk KX G ?a ?l ?c ?k (fun _ _ _ _ _ _ us hl => match us, hl with | [_], _ => rfl)⟩
      (case a => k_is); (case l => k_is); (case c => k_is); (case k => k_is)
    obtain ⟨f_divisors, d_divisors, D_divisors⟩ : ∃ f fd, Cp.Dn _ mg "divisors" Cp.s_divisors ["n"] f fd := by
      refine' ⟨_, _, Cp.dn_mk KX G ?a ?l ?c ?k (fun _ _ _ _ _ _ us hl => match us, hl with | [_], _ => rfl)⟩
      (case a => k_is); (case l => k_is); (case c => k_is); (case k => k_is)
    obtain ⟨f_value_at, d_value_at, D_value_at⟩ : ∃ f fd, Cp.Dn _ mg "value_at" Cp.s_value_at ["p", "above", "below"] f fd := by
      refine' ⟨_, _, Cp.dn_mk KX G ?a ?l ?c ?k (fun _ _ _ _ _ _ us hl => match us, hl with | [_, _, _], _ => rfl)⟩
      (case a => k_is); (case l => k_is); (case c => k_is); (case k => k_is)
    obtain ⟨f_resolvent, d_resolvent, D_resolvent⟩ : ∃ f fd, Cp.Dn _ mg "resolvent" Cp.s_resolvent ["p"] f fd := by
      refine' ⟨_, _, Cp.dn_mk KX G ?a ?l ?c ?k (fun _ _ _ _ _ _ us hl => match us, hl with | [_], _ => rfl)⟩
      (case a => k_is); (case l => k_is); (case c => k_is); (case k => k_is)
    obtain ⟨f_is_zero_somewhere, d_is_zero_somewhere, D_is_zero_somewhere⟩ : ∃ f fd, Cp.Dn _ mg "is_zero_somewhere" Cp.s_is_zero_somewhere ["p", "z"] f fd := by
      refine' ⟨_, _, Cp.dn_mk KX G ?a ?l ?c ?k (fun _ _ _ _ _ _ us hl => match us, hl with | [_, _], _ => rfl)⟩
      (case a => k_is); (case l => k_is); (case c => k_is); (case k => k_is)
    have T : Cp.Txt mg := by
      refine' ⟨PySem.W.ns_none_of KX G ?c0, PySem.W.ns_none_of KX G ?c1, PySem.W.ns_none_of KX G ?c2, PySem.W.ns_none_of KX G ?c3, PySem.W.ns_none_of KX G ?c4, PySem.W.ns_none_of KX G ?c5, PySem.W.ns_none_of KX G ?c6, Cp.int_mk KX G ?c7, Cp.int_mk KX G ?c8, Cp.int_mk KX G ?c9, Cp.int_mk KX G ?c10, Cp.int_mk KX G ?c11⟩
      (case c0 => k_is); (case c1 => k_is); (case c2 => k_is); (case c3 => k_is); (case c4 => k_is); (case c5 => k_is); (case c6 => k_is); (case c7 => k_is); (case c8 => k_is); (case c9 => k_is); (case c10 => k_is); (case c11 => k_is)
    refine' Cp.main_mk KX G hmg T D_is_row D_radicand D_side_of_zero D_side_of_whole D_norm D_product D_total D_difference D_is_cubic_or_quartic D_is_zero_at_reached D_fraction_where_zero D_divisors D_value_at D_resolvent D_is_zero_somewhere ?a ?l ?c ?k
    (case a => k_is); (case l => k_is); (case c => k_is); (case k => k_is)
  case S =>
    intro K H xs a hO hwi hask hx
    cases hx with
    | cons h1 h2 =>
      cases h2
      cases h1 with
      | lst hs1 ha1 =>
        have e1 := L2.ints_dw a.1 _ ha1
        subst e1
        have q : ((Codec.inLen 0 20 a.1 && a.1.all (Codec.inInt (_root_.Int.negSucc 2147483647) (_root_.Int.ofNat 2147483647))) && true) = true := hwi
        simp only [Bool.and_eq_true] at q
        exact ⟨_, a.1, rfl, hs1, (Codec.inNat_iff.mp q.1.1).2, fun H' p hp => .lst (L2.SqL.of hp) (L2.dw_ints _)⟩
#print axioms PySem.Challenge.cw_compasses_s06_root_holds

