import PyProof.Rows.All
import Wide.All
import OpenK.AllK
import Wide.FinOn
import PyProof.EqAt
import PyProof.EqKinds
import PyProof.TupleCall
import KE.BitLaws
import Open.SpecLaws
import KE.OsHead
import KE.OsGo
import KE.KMinBuiltin
import KE.KSortTupG
import PySem.Challenge.RW_leastfare_s01_answers

section
set_option Elab.async false
set_option linter.all false
set_option maxRecDepth 100000
/-! THE HAND LAYER, for ints, bools, texts, own classes, lists, tuples, dicts, comprehensions, walks over dicts, enumerate, zip, reversed, texts, calls, loops. Paste it whole ahead of your own text; what your proof does not reach may be deleted. -/
namespace L2
open PySem PySem.Spec PyProof.Rows

/-- a key: an int or a str -/
abbrev Key := Sum Int Str
def keyIs : Key → Value → Bool
  | .inl k, v => Value.isInt k v
  | .inr x, v => Value.isStrOf x v
def keyH (w : World) : Key → Int
  | .inl k => hashInt k
  | .inr x => hashStr w x
theorem keyIs_shape : ∀ {k : Key} {v : Value}, keyIs k v = true → (∃ i t, k = Sum.inl i ∧ v = Value.int i t) ∨ (∃ x t, k = Sum.inr x ∧ v = Value.str x t)
  | .inl i, v, h => by
    obtain ⟨t, e⟩ := Value.isInt_shape (k := i) (v := v) h
    exact .inl ⟨i, t, rfl, e⟩
  | .inr x, v, h => by
    obtain ⟨t, e⟩ := Value.isStrOf_shape (x := x) (v := v) h
    exact .inr ⟨x, t, rfl, e⟩
theorem key_ll (a b : Int) : decide ((Sum.inl a : Key) = Sum.inl b) = (a == b) := by
  by_cases e : a = b
  · subst e; simp
  · have h : ¬ (Sum.inl a : Key) = Sum.inl b := fun q => e (Sum.inl.inj q)
    rw [decide_eq_false h]
    exact (beq_eq_false_iff_ne.mpr e).symm
theorem key_rr (a b : Str) : decide ((Sum.inr a : Key) = Sum.inr b) = decide (a = b) := by
  by_cases e : a = b
  · subst e; simp
  · have h : ¬ (Sum.inr a : Key) = Sum.inr b := fun q => e (Sum.inr.inj q)
    rw [decide_eq_false h, decide_eq_false e]
theorem key_lr (a : Int) (b : Str) : decide ((Sum.inl a : Key) = Sum.inr b) = false := decide_eq_false (fun q => nomatch q)
theorem key_rl (a : Str) (b : Int) : decide ((Sum.inr a : Key) = Sum.inl b) = false := decide_eq_false (fun q => nomatch q)

def mixKind (prog : Program) (w : World) : PySem.KeyKind prog w Key where
  is := keyIs
  hash := keyH w
  inj := fun v a b ha hb => by
    rcases keyIs_shape ha with ⟨i, t, rfl, rfl⟩ | ⟨x, t, rfl, rfl⟩
    · rcases keyIs_shape hb with ⟨j, u, rfl, e⟩ | ⟨y, u, rfl, e⟩
      · injection e with e1 _; rw [e1]
      · exact nomatch e
    · rcases keyIs_shape hb with ⟨j, u, rfl, e⟩ | ⟨y, u, rfl, e⟩
      · exact nomatch e
      · injection e with e1 _; rw [e1]
  byValue := fun k v h => by
    rcases keyIs_shape h with ⟨i, t, rfl, rfl⟩ | ⟨x, t, rfl, rfl⟩ <;> rfl
  pyHash := fun hv h => by
    rcases keyIs_shape hv with ⟨i, t, rfl, rfl⟩ | ⟨x, t, rfl, rfl⟩
    · exact wpAny_pyHash_int h
    · exact wpAny_pyHash_str h
  eqBool := fun hu hv h => by
    rcases keyIs_shape hu with ⟨i, t, rfl, rfl⟩ | ⟨x, t, rfl, rfl⟩
    · rcases keyIs_shape hv with ⟨j, u, rfl, rfl⟩ | ⟨y, u, rfl, rfl⟩
      · rw [key_ll] at h; exact wpAny_eqBool_int h
      · rw [key_lr] at h; exact SeqAt.EqAt.int_str i t y u _ _ _ _ h
    · rcases keyIs_shape hv with ⟨j, u, rfl, rfl⟩ | ⟨y, u, rfl, rfl⟩
      · rw [key_rl] at h; exact SeqAt.EqAt.str_int x t j u _ _ _ _ h
      · rw [key_rr] at h; exact wpAny_eqBool_str h
  «strs» := fun k x t v h => by
    rcases keyIs_shape h with ⟨i, u, rfl, e⟩ | ⟨y, u, rfl, e⟩
    · exact nomatch e
    · injection e with e1 _
      subst e1
      cases v <;> rfl

end L2

namespace L2
open PySem PySem.Spec PyProof.Rows

/-- a value, without the heap -/
inductive V where
  | non | bl (b : Bool) | int (i : Int) | str (x : Str) | byt (b : Array UInt8) | flt (b : UInt64) | ref (a : Addr) | ty (n : String)
  deriving DecidableEq

def RelV : V → Value → Prop
  | .non, u => u = Value.none
  | .bl b, u => u = Value.bool b
  | .int i, u => ∃ t, u = Value.int i t
  | .str x, u => ∃ t, u = Value.str x t
  | .byt b, u => ∃ t, u = Value.bytes b t
  | .flt b, u => ∃ t, u = Value.float b t
  | .ref a, u => u = Value.ref a
  | .ty n, u => u = Value.type n

abbrev Vals : List V → List Value → Prop := Paired RelV
theorem Vals.length {xs : List V} {us : List Value} (r : Vals xs us) : xs.length = us.length := Paired.length r
theorem Vals.get : ∀ {xs : List V} {us : List Value} {i : Nat} {x : V}, Vals xs us → xs[i]? = some x → ∃ u, us[i]? = some u ∧ RelV x u
  | _, _, _, _, .nil, e => by simp at e
  | _, _, 0, _, .cons r _, e => by simp at e; subst e; exact ⟨_, rfl, r⟩
  | _, _, i + 1, x, .cons _ t, e => by
    obtain ⟨u, h1, h2⟩ := Vals.get (i := i) (x := x) t (by simpa using e)
    exact ⟨u, by simpa using h1, h2⟩
theorem Vals.set {x : V} {u : Value} (r : RelV x u) : ∀ {xs : List V} {us : List Value} (i : Nat), Vals xs us → Vals (xs.set i x) (us.set i u)
  | _, _, _, .nil => .nil
  | _, _, 0, .cons _ t => .cons r t
  | _, _, i + 1, .cons q t => .cons q (Vals.set r i t)
theorem Vals.append : ∀ {xs ys : List V} {us ws : List Value}, Vals xs us → Vals ys ws → Vals (xs ++ ys) (us ++ ws)
  | _, _, _, _, .nil, s => s
  | _, _, _, _, .cons r t, s => .cons r (Vals.append t s)

def RelO : Option V → Option Value → Prop
  | some v, some u => RelV v u
  | none, none => True
  | _, _ => False
def KV {κ : Type} : List (κ × V) → List (κ × Value) → Prop := Paired fun (p : κ × V) (q : κ × Value) => p.1 = q.1 ∧ RelV p.2 q.2

/-- a key of a dict (00_mix): an int or a text -/
def kV : Key → V
  | .inl i => .int i
  | .inr x => .str x

/-- what stands at a tracked address -/
inductive HO where
  /-- a list -/
  | lst (xs : List V)
  /-- a tuple (never changes) -/
  | tup (xs : List V)
  /-- a dict whose keys are ints and texts; one whose keys are tuples of ints and texts (the empty one is both) -/
  | dK (kvs : List (Key × V)) | dT (kvs : List (List Key × V))
  /-- a set of ints: its members, its size -/
  | set (S : Int → Bool) (n : Nat)
  /-- an instance of the class at C, its dict at dx, its attributes -/
  | ins (C dx : Addr) (fs : List (Str × V))
  /-- the dict of the instance at x -/
  | own (x : Addr)
  /-- the dict of an exception -/
  | xd (fs : List (Str × V))
  /-- a bound method, f of x -/
  | met (f x : Addr)
  /-- a range object lo, lo + 1, .. below hi -/
  | rng (lo hi : Int)
  /-- a thing that is known to the object (the script; a dict while a loop walks it): read, never written while it is so -/
  | frz (o : Obj) (u : HO)
  /-- a code object's table -/
  | tbl (ps : Array Value)
  /-- any other thing, by what is true of its one object (a def of one's own: SetO a S n := HO.ext fun h => ..) -/
  | ext (φ : Heap → Prop)

abbrev Hp := Addr → Option HO
def upd (H : Hp) (a : Addr) (o : HO) : Hp := fun b => if b = a then some o else H b
theorem upd_same {H : Hp} {a : Addr} {o : HO} : upd H a o a = some o := by unfold upd; rw [if_pos rfl]
theorem upd_ne {H : Hp} {a b : Addr} {o : HO} (h : b ≠ a) : upd H a o b = H b := by unfold upd; rw [if_neg h]
theorem upd_upd {H : Hp} {a : Addr} {o u : HO} : upd (upd H a o) a u = upd H a u := by
  funext b; unfold upd; split <;> rfl
/-- two objects of different content stand apart -/
theorem ne_of {H : Hp} {a b : Addr} {o u : HO} (h : H a = some o) (h' : H b = some u) (d : o ≠ u) : a ≠ b := by
  intro e; subst e; rw [h] at h'; exact d (Option.some.inj h')
theorem ne_of_none {H : Hp} {a b : Addr} {o : HO} (h : H a = some o) (h' : H b = none) : a ≠ b := by
  intro e; subst e; rw [h] at h'; cases h'

section
variable (P : Program) (w : World)
def ObjOk (H : Hp) (h : Heap) (a : Addr) : HO → Prop
  | .lst xs => xs.length ≤ sizeLine ∧ ∃ (its : List Value) (n : Nat), Vals xs its ∧ h.get? a = some { cls := .type "list", data := .seq its.toArray n }
  | .tup xs => xs.length ≤ sizeLine ∧ ∃ its : List Value, Vals xs its ∧ IsTup h a its.toArray
  | .dK kvs => kvs.length ≤ sizeLine ∧ (a == sysModules) = false ∧ ∃ vs, KV kvs vs ∧ h.DictOf (mixKind P w) a vs
  | .dT kvs => kvs.length ≤ sizeLine ∧ (a == sysModules) = false ∧ ∃ xs : List (List Key × Addr × Value),
      Paired (fun (p : List Key × V) (q : List Key × Addr × Value) => p.1 = q.1 ∧ H q.2.1 = some (.tup (p.1.map kV)) ∧ RelV p.2 q.2.2) kvs xs ∧
      ∃ o es ep, h.get? a = some o ∧ o.ExactDict ∧ o.data = .dict es ep ∧ es.toList = xs.map (entryOfKey (tupleKind (mixKind P w))) ∧ (xs.map (·.1)).Nodup
  | .set S n => h.SetOf (intKind P w) a S n
  | .ins C dx fs => H dx = some (.own a) ∧ fs.length ≤ 1000 ∧ dx ≠ a ∧ h.get? a = some (PySem.W.instObj C dx) ∧
      ∃ mA, h.Ns1 dx mA ∧ (∀ f, RelO (fs.lookup f) (mA f)) ∧ PySem.Within mA (fs.map (·.1))
  | .own _ => ∃ o, h.get? a = some o
  | .xd fs => ∃ mA, h.Ns1 a mA ∧ ∀ f, RelO (fs.lookup f) (mA f)
  | .rng lo hi => ∃ t u v, h.get? a = some { cls := .type "range", data := .fields #[.int lo t, .int hi u, .int 1 v] }
  | .frz o u => h.get? a = some o ∧ ObjOk H h a u
  | .tbl ps => h.get? a = some { cls := .none, data := .fields ps }
  | .met f x => h.get? a = some (PySem.W.methodObj (.ref f) (.ref x))
  | .ext φ => φ h ∧ (∃ o, h.get? a = some o) ∧ ∀ h1 h2 : Heap, φ h1 → (∀ o, h1.get? a = some o → h2.get? a = some o) → φ h2
/-- the abstract heap is held -/
def HOk (H : Hp) (h : Heap) : Prop := ∀ a o, H a = some o → ObjOk P w H h a o
end

section
variable {P : Program} {w : World} {H H' : Hp} {h h' : Heap} {a : Addr} {o : HO}
theorem ObjOk.lt (x : ObjOk P w H h a o) : a < h.objs.size := by
  cases o with
  | lst xs => obtain ⟨_, _, _, _, e⟩ := x; exact Heap.lt_size e
  | tup xs => obtain ⟨_, _, _, p⟩ := x; exact p.lt
  | dK kvs => obtain ⟨_, _, _, _, o, _, _, e, _⟩ := x; exact Heap.lt_size e
  | dT kvs => obtain ⟨_, _, _, _, o, _, _, e, _⟩ := x; exact Heap.lt_size e
  | set S n => obtain ⟨o, _, _, _, e, _⟩ := x; exact Heap.lt_size e
  | ins C dx fs => obtain ⟨_, _, _, e, _⟩ := x; exact Heap.lt_size e
  | own y => obtain ⟨_, e⟩ := x; exact Heap.lt_size e
  | xd fs => obtain ⟨_, ⟨_, _, _, e, _⟩, _⟩ := x; exact Heap.lt_size e
  | rng lo hi => obtain ⟨_, _, _, e⟩ := x; exact Heap.lt_size e
  | frz ob u => obtain ⟨e, _⟩ := x; exact Heap.lt_size e
  | tbl ps => exact Heap.lt_size (show h.get? a = some _ from x)
  | met f y => exact Heap.lt_size (show h.get? a = some _ from x)
  | ext φ => obtain ⟨_, ⟨_, e⟩, _⟩ := x; exact Heap.lt_size e
theorem Paired.mapP {α β : Type} {F G : α → β → Prop} : ∀ {l₁ : List α} {l₂ : List β}, Paired F l₁ l₂ → (∀ a b, F a b → G a b) → Paired G l₁ l₂
  | _, _, .nil, _ => .nil
  | _, _, .cons r t, f => .cons (f _ _ r) (Paired.mapP t f)
/-- what an object's description leans on: its own object, its own dict, the tuples -/
theorem ObjOk.stay (x : ObjOk P w H h a o) (k : ∀ b u, (b = a ∨ H b = some (.own a)) → h.get? b = some u → h'.get? b = some u)
    (ho : ∀ b, H b = some (.own a) → H' b = some (.own a)) (ht : ∀ b xs, H b = some (.tup xs) → H' b = some (.tup xs)) : ObjOk P w H' h' a o := by
  induction o with
  | lst xs => obtain ⟨z, its, n, r, e⟩ := x; exact ⟨z, its, n, r, k _ _ (.inl rfl) e⟩
  | tup xs => obtain ⟨z, its, r, ob, e, c⟩ := x; exact ⟨z, its, r, ob, k _ _ (.inl rfl) e, c⟩
  | dK kvs => obtain ⟨z, y, vs, r, ob, es, ep, e, c⟩ := x; exact ⟨z, y, vs, r, ob, es, ep, k _ _ (.inl rfl) e, c⟩
  | dT kvs =>
    obtain ⟨z, y, xs, r, ob, es, ep, e, c⟩ := x
    exact ⟨z, y, xs, Paired.mapP r fun p q z => ⟨z.1, ht _ _ z.2.1, z.2.2⟩, ob, es, ep, k _ _ (.inl rfl) e, c⟩
  | set S n => obtain ⟨ob, es, ep, t, e, c⟩ := x; exact ⟨ob, es, ep, t, k _ _ (.inl rfl) e, c⟩
  | ins C dx fs =>
    obtain ⟨d, z, ne, e, mA, ⟨od, es, ep, e2, c⟩, r⟩ := x
    exact ⟨ho _ d, z, ne, k _ _ (.inl rfl) e, mA, ⟨od, es, ep, k _ _ (.inr d) e2, c⟩, r⟩
  | own y => obtain ⟨ob, e⟩ := x; exact ⟨ob, k _ _ (.inl rfl) e⟩
  | xd fs => obtain ⟨mA, ⟨od, es, ep, e, c⟩, r⟩ := x; exact ⟨mA, ⟨od, es, ep, k _ _ (.inl rfl) e, c⟩, r⟩
  | rng lo hi => obtain ⟨t, u, v, e⟩ := x; exact ⟨t, u, v, k _ _ (.inl rfl) e⟩
  | frz ob u ih => obtain ⟨e, q⟩ := x; exact ⟨k _ _ (.inl rfl) e, ih q⟩
  | tbl ps =>
    have e : h.get? a = some { cls := .none, data := .fields ps } := x
    show h'.get? a = some { cls := .none, data := .fields ps }
    exact k a _ (.inl rfl) e
  | met f y =>
    have e : h.get? a = some (PySem.W.methodObj (.ref f) (.ref y)) := x
    show h'.get? a = some (PySem.W.methodObj (.ref f) (.ref y))
    exact k a _ (.inl rfl) e
  | ext φ => obtain ⟨p, ⟨o, e⟩, st⟩ := x; exact ⟨st _ _ p fun o q => k _ _ (.inl rfl) q, ⟨o, k _ _ (.inl rfl) e⟩, st⟩
theorem HOk.lt (x : HOk P w H h) (e : H a = some o) : a < h.objs.size := (x a o e).lt
theorem HOk.fresh (x : HOk P w H h) (e : h.objs.size ≤ a) : H a = none := by
  cases q : H a with
  | none => rfl
  | some u => exact absurd (Nat.lt_of_lt_of_le (x.lt q) e) (Nat.lt_irrefl _)
/-- every object of the heap is kept -/
theorem HOk.kept (x : HOk P w H h) (k : ∀ b u, h.get? b = some u → h'.get? b = some u) : HOk P w H h' := fun a o e =>
  (x a o e).stay (fun b u _ q => k b u q) (fun _ q => q) fun _ _ q => q
/-- a new object is laid and tracked -/
theorem HOk.laid (x : HOk P w H h) (k : ∀ b u, h.get? b = some u → h'.get? b = some u) (hp : h.objs.size ≤ a) (new : ObjOk P w (upd H a o) h' a o) : HOk P w (upd H a o) h' := fun b u e => by
  have hn := x.fresh hp
  by_cases hb : b = a
  · subst hb; rw [upd_same] at e; cases e; exact new
  · rw [upd_ne hb] at e
    exact (x b u e).stay (fun c v _ q => k c v q) (fun c q => by rw [upd_ne (ne_of_none q hn)]; exact q) fun c xs q => by rw [upd_ne (ne_of_none q hn)]; exact q
end

/-- what may be read as u: it is u, or a known u -/
def Rd (H : Hp) (a : Addr) (u : HO) : Prop := H a = some u ∨ ∃ o, H a = some (.frz o u)
theorem Rd.ok {P : Program} {w : World} {H : Hp} {h : Heap} {a : Addr} {u : HO} (r : Rd H a u) (x : HOk P w H h) : ObjOk P w H h a u := by
  rcases r with r | ⟨o, r⟩
  · exact x a u r
  · obtain ⟨_, q⟩ := x a _ r
    exact q
/-- what may be written -/
def Mut : Option HO → Prop
  | some (.lst _) => True
  | some (.dK _) => True
  | some (.dT _) => True
  | some (.set _ _) => True
  | some (.ins _ _ _) => True
  | some (.ext _) => True
  | _ => False
section
variable {P : Program} {w : World} {H : Hp} {h h' : Heap} {x e : Addr} {o' : HO}
/-- the object at e is changed: x itself, or the dict of the instance x -/
theorem HOk.write (ok : HOk P w H h) (mu : Mut (H x)) (he : e = x ∨ H e = some (.own x)) (k : ∀ b u, b ≠ e → h.get? b = some u → h'.get? b = some u) (heo : ∃ u, h'.get? e = some u)
    (new : ObjOk P w (upd H x o') h' x o') : HOk P w (upd H x o') h' := fun b u q => by
  have nown : ∀ c y, H c = some (.own y) → c ≠ x := fun c y r z => by subst z; rw [r] at mu; exact mu
  have ntup : ∀ c xs, H c = some (.tup xs) → c ≠ x := fun c xs r z => by subst z; rw [r] at mu; exact mu
  by_cases hb : b = x
  · subst hb; rw [upd_same] at q; cases q; exact new
  · rw [upd_ne hb] at q
    by_cases hbe : b = e
    · have q' : H b = some (.own x) := by
        rcases he with z | z
        · exact absurd (hbe.trans z) hb
        · rw [hbe]; exact z
      rw [q] at q'; cases q'
      obtain ⟨v, hv⟩ := heo
      exact ⟨v, by rw [hbe]; exact hv⟩
    · refine (ok b u q).stay (fun c v hc r => k c v ?_ r) (fun c r => by rw [upd_ne (nown c b r)]; exact r) fun c xs r => by rw [upd_ne (ntup c xs r)]; exact r
      rcases hc with rfl | hc
      · exact hbe
      · rintro rfl
        rcases he with z | z
        · exact nown c b hc z
        · rw [hc] at z; cases z; exact hb rfl
end

/-! ### kept unless tracked; of the frames at fs (the callers') the slots may change (an exception that passes writes there); of the records at ex (iterators) nothing is said -/
structure Un (fs ex : List Addr) (H H' : Hp) (h h' : Heap) : Prop where
  keep : ∀ b o, h.get? b = some o → H b = none → b ∉ fs → b ∉ ex → h'.get? b = some o
  slot : ∀ b o, h.get? b = some o → H b = none → b ∈ fs → b ∉ ex → ∃ sl, h'.get? b = some { o with slots := sl }
  free : ∀ b o, h.get? b = some o → H b = none → b ∉ ex → H' b = none
  there : ∀ b o, h.get? b = some o → b ∉ ex → ∃ o', h'.get? b = some o'
  tups : ∀ b xs, H b = some (.tup xs) → H' b = some (.tup xs)
  frzs : ∀ b o u, H b = some (.frz o u) → H' b = some (.frz o u)
  tbls : ∀ b ps, H b = some (.tbl ps) → ∃ more, H' b = some (.tbl (ps ++ more))
section
variable {fs fs' ex ex' : List Addr} {H H1 H2 : Hp} {h h1 h2 h' : Heap} {a x e : Addr} {o : HO}
theorem Un.any (u : Un fs ex H H1 h h1) {b : Addr} {ob : Obj} (q : h.get? b = some ob) (n : H b = none) (hx : b ∉ ex) : ∃ sl, h1.get? b = some { ob with slots := sl } := by
  by_cases hb : b ∈ fs
  · exact u.slot b ob q n hb hx
  · exact ⟨ob.slots, u.keep b ob q n hb hx⟩
theorem Un.kept (k : ∀ b u, h.get? b = some u → h'.get? b = some u) : Un fs ex H H h h' :=
  ⟨fun b ob q _ _ _ => k b ob q, fun b ob q _ _ _ => ⟨ob.slots, k b ob q⟩, fun _ _ _ n _ => n, fun b ob q _ => ⟨ob, k b ob q⟩, fun _ _ q => q, fun _ _ _ q => q, fun _ ps q => ⟨#[], by rw [q]; simp⟩⟩
theorem Un.refl : Un fs ex H H h h := Un.kept fun _ _ q => q
theorem Un.laid (k : ∀ b u, h.get? b = some u → h'.get? b = some u) (hp : h.objs.size ≤ a) (hn : H a = none) : Un fs ex H (upd H a o) h h' where
  keep := fun b u q _ _ _ => k b u q
  slot := fun b u q _ _ _ => ⟨u.slots, k b u q⟩
  free := fun b u q n _ => by rw [upd_ne (Nat.ne_of_lt (Nat.lt_of_lt_of_le (Heap.lt_size q) hp))]; exact n
  there := fun b u q _ => ⟨u, k b u q⟩
  tups := fun b xs q => by rw [upd_ne (ne_of_none q hn)]; exact q
  frzs := fun b u xs q => by rw [upd_ne (ne_of_none q hn)]; exact q
  tbls := fun b ps q => ⟨#[], by rw [upd_ne (ne_of_none q hn), q]; simp⟩
theorem Un.write (mu : Mut (H x)) (he : e = x ∨ H e = some (.own x)) (k : ∀ b u, b ≠ e → h.get? b = some u → h'.get? b = some u) (heo : ∃ u, h'.get? e = some u) : Un fs ex H (upd H x o) h h' := by
  have hx : ∀ b, H b = none → b ≠ x := fun b n z => by subst z; rw [n] at mu; exact mu
  have hb : ∀ b, H b = none → b ≠ e := fun b n z => by
    subst z
    rcases he with r | r
    · exact hx b n r
    · rw [n] at r; cases r
  have hm : ∀ b u, H b = some u → ¬ Mut (some u) → b ≠ x := fun b u q nm z => by subst z; rw [q] at mu; exact nm mu
  refine ⟨fun b u q n _ _ => k b u (hb b n) q, fun b u q n _ _ => ⟨u.slots, k b u (hb b n) q⟩, fun b u q n _ => by rw [upd_ne (hx b n)]; exact n, fun b u q _ => ?_,
    fun b xs q => by rw [upd_ne (hm b _ q fun z => z)]; exact q, fun b u xs q => by rw [upd_ne (hm b _ q fun z => z)]; exact q, fun b ps q => ⟨#[], by rw [upd_ne (hm b _ q fun z => z), q]; simp⟩⟩
  by_cases hbe : b = e
  · subst hbe; exact heo
  · exact ⟨u, k b u hbe q⟩
end

/-! ### the heap without what is tracked -/
def trk (h : Heap) (H : Hp) : List Addr := (List.range h.objs.size).filter fun a => (H a).isSome
def hidT (h : Heap) (H : Hp) : Heap := PySem.W.hideAll h (trk h H)
theorem hidT_size (h : Heap) (H : Hp) : (hidT h H).objs.size = h.objs.size := PySem.W.hideAll_size _ _
theorem hidT_get {h : Heap} {H : Hp} {b : Addr} {o : Obj} (e : h.get? b = some o) (n : H b = none) : (hidT h H).get? b = some o :=
  PySem.W.hideAll_get _ e fun hm => by
    have q : (H b).isSome = true := (List.mem_filter.mp hm).2
    rw [n] at q; simp at q
theorem of_hidT {h : Heap} {H : Hp} {b : Addr} {o : Obj} (e : (hidT h H).get? b = some o) : h.get? b = some o ∧ H b = none := by
  have e' : h.get? b = some o := PySem.W.of_hideAll (trk h H) e
  refine ⟨e', ?_⟩
  cases q : H b with
  | none => rfl
  | some x =>
    have hm : b ∈ trk h H := List.mem_filter.mpr ⟨List.mem_range.mpr (Heap.lt_size e'), by simp [q]⟩
    have z : (hidT h H).get? b = none := PySem.W.hideAll_none (trk h H) hm
    rw [z] at e; cases e

/-! ### OpenK's ledger, filled with every new object but one -/
end L2

namespace L2
open PySem PySem.Spec PyProof.Rows

/-- the module's facts, over the base: the heap at the law's entry without what is tracked there -/
structure Mod (K : PySem.W.Frag) (mg : Str → Option Value) (base : Heap) : Prop where
  kin : K.In base
  glob : base.Ns mainGlobals mg
  blt : ∃ mb, base.Ns builtinsNs mb ∧ ∀ x : Str, x ≠ "__name__" → mb x = bootBuiltins x
  nolimit : base.NoLimit

/-- the context: a def's body (or a comprehension's block) running. base: fixed through the whole law; s₀, H₀: the entry; outer: the frames whose slots others may change (a def's callers); stack: all frames that run;
   ex: iterators that were made ahead of the entry and are walked here (a comprehension's); fn: the names whose cells were made at the entry (a def: all; a comprehension's block: its own); calm: not within an except suite; pn: pins that every state bears; xe: what is wanted of an exception that leaves the code -/
structure Cx where
  prog : Program
  w : World
  K : PySem.W.Frag
  mg : Str → Option Value
  base : Heap
  A : Around
  N : List Str
  s_0 : Shared
  H_0 : Hp
  env : Env
  outer : List Env
  stack : List Env
  ex : List Addr
  fn : Str → Bool
  calm : Bool
  pn : List (Addr × Obj)
  xe : Value → Shared → Prop
/-- the callers' frames -/
def frs (l : List Env) : List Addr := l.filterMap (·.frame)
abbrev Cx.fs (X : Cx) : List Addr := frs X.outer

def Vis (sc : Scope) (x : Str) : Prop := sc.names.lookup x = some .local ∨ sc.names.lookup x = some .cell ∨ sc.names.lookup x = some .free
def Loc (sc : Scope) (x : Str) : Prop := sc.names.lookup x = some .local ∨ sc.names.lookup x = some .cell
def Look (env : Env) (h : Heap) (m : Str → Option Value) (x : Str) (u : Value) : Prop :=
  (env.kindOf x = some .local ∧ m x = some u) ∨ ((env.kindOf x = some .cell ∨ env.kindOf x = some .free) ∧ ∃ c, env.cells.lookup x = some c ∧ h.IsCell c (some u))

structure Cx.Ok (X : Cx) : Prop where
  mod : Mod X.K X.mg X.base
  kind : X.env.scope.kind = .function
  glob : X.env.globals = mainGlobals
  blt : X.env.builtins = builtinsNs
  above : X.s_0.heap.objs.size ≤ X.env.locals
  inj : ∀ x y c, X.env.cells.lookup x = some c → X.env.cells.lookup y = some c → x = y
  has : ∀ x, (X.env.kindOf x = some .cell ∨ X.env.kindOf x = some .free) → ∃ c, X.env.cells.lookup x = some c
  cab : ∀ x c, X.fn x = true → X.env.cells.lookup x = some c → X.s_0.heap.objs.size ≤ c
  hd : X.calm = true → X.A.handled = none
  frames : X.A.frames = some X.stack
  stk : X.stack = X.outer ∨ (X.stack = X.env :: X.outer ∧ X.env.frame = some X.env.locals)
  exf : ∀ b ∈ X.ex, b ≠ X.env.locals ∧ ∀ x c, X.env.cells.lookup x = some c → c ≠ b
  bs : ∀ b o, X.base.get? b = some o → X.s_0.heap.get? b = some o ∧ X.H_0 b = none
  bsz : X.base.objs.size ≤ X.s_0.heap.objs.size
  noex : ∀ b o, X.base.get? b = some o → b ∉ X.ex
  exfs : ∀ b ∈ X.ex, b ∉ X.fs
  funs : X.s_0.heap.FunFrames X.base X.outer
  frf : ∀ b ∈ X.fs, X.H_0 b = none

structure Inv (X : Cx) (pins : List (Addr × Obj)) (σ : List (Option V)) (H : Hp) (s : Shared) : Prop where
  ok : X.Ok
  os : s.os = X.s_0.os
  bare : AllBare s.gens
  base : Un X.fs X.ex X.H_0 H X.s_0.heap s.heap
  loc : ∃ m, s.heap.Ns X.env.locals m ∧ ∀ (i : Nat) (x : Str) (v : V), X.N[i]? = some x → σ[i]? = some (some v) → Vis X.env.scope x → ∃ u, RelV v u ∧ Look X.env s.heap m x u
  cell : ∀ x c, X.env.cells.lookup x = some c → ∃ v, s.heap.IsCell c v
  free : H X.env.locals = none
  freeC : ∀ x c, X.env.cells.lookup x = some c → H c = none
  pin : ∀ p ∈ X.pn ++ pins, s.heap.get? p.1 = some p.2 ∧ H p.1 = none ∧ p.1 ≠ X.env.locals ∧ p.1 ∉ X.fs ∧ ∀ v, p.2.data ≠ .cell v
  hok : HOk X.prog X.w H s.heap
  len : σ.length = X.N.length

section
variable {X : Cx} {pins : List (Addr × Obj)} {σ : List (Option V)} {H H' : Hp} {s : Shared} {h' : Heap}

theorem Cx.Ok.nofr (ok : X.Ok) {b : Addr} {o : Obj} (e : X.base.get? b = some o) : b ∉ X.fs := fun hb => by
  have := (ok.funs.mem hb).1
  rw [e] at this; cases this
theorem Inv.bs (I : Inv X pins σ H s) : ∀ b o, X.base.get? b = some o → s.heap.get? b = some o ∧ H b = none := fun b o e =>
  ⟨I.base.keep b o (I.ok.bs b o e).1 (I.ok.bs b o e).2 (I.ok.nofr e) (I.ok.noex b o e), I.base.free b o (I.ok.bs b o e).1 (I.ok.bs b o e).2 (I.ok.noex b o e)⟩
theorem Inv.bk (I : Inv X pins σ H s) : ∀ b o, X.base.get? b = some o → s.heap.get? b = some o := fun b o e => (I.bs b o e).1
theorem Inv.mod (I : Inv X pins σ H s) : Mod X.K X.mg X.base := I.ok.mod
theorem Inv.kIn (I : Inv X pins σ H s) : X.K.In s.heap := I.ok.mod.kin.keeps I.bk
/-- the frame over the base: for OpenK's rules (K.In X.base is I.mod.kin) -/
theorem Inv.fr (I : Inv X pins σ H s) : ∃ m, Fr X.base X.env.locals s.heap m :=
  let ⟨m, hn, _⟩ := I.loc
  ⟨m, hn, I.bk, Nat.le_trans I.ok.bsz I.ok.above⟩
theorem Inv.lt (I : Inv X pins σ H s) : X.env.locals < s.heap.objs.size := let ⟨_, hn, _⟩ := I.loc; hn.lt
theorem Inv.sz (I : Inv X pins σ H s) : X.s_0.heap.objs.size ≤ s.heap.objs.size := Nat.le_trans I.ok.above (Nat.le_of_lt I.lt)
theorem Inv.nofs (I : Inv X pins σ H s) {a : Addr} (h : s.heap.objs.size ≤ a) : a ∉ X.fs := fun hb => by
  obtain ⟨_, o, ho, _⟩ := I.ok.funs.mem hb
  exact absurd (Nat.lt_of_lt_of_le (Heap.lt_size ho) (Nat.le_trans I.sz h)) (Nat.lt_irrefl _)
theorem Inv.cne (I : Inv X pins σ H s) : ∀ x c, X.env.cells.lookup x = some c → c ≠ X.env.locals := fun x c e z => by
  obtain ⟨v, o, ho, hd⟩ := I.cell x c e
  obtain ⟨m, ⟨o', es, ep, ho', hd', _⟩, _⟩ := I.loc
  rw [z, ho'] at ho; cases ho; rw [hd'] at hd; cases hd
theorem Inv.funs (I : Inv X pins σ H s) : s.heap.FunFrames X.base X.outer := by
  have all : ∀ (l : List Env), (∀ b ∈ frs l, b ∈ X.fs) → X.s_0.heap.FunFrames X.base l → s.heap.FunFrames X.base l := by
    intro l
    induction l with
    | nil => intro _ _; trivial
    | cons env r ih =>
      intro hs hl
      obtain ⟨hk, ⟨L, o, hf, hn, ho, hd⟩, hr⟩ := hl
      have hL : L ∈ X.fs := hs L (by unfold frs; rw [List.filterMap_cons, hf]; exact List.mem_cons_self)
      obtain ⟨sl, e⟩ := I.base.slot L o ho (I.ok.frf L hL) hL fun z => I.ok.exfs L z hL
      exact ⟨hk, ⟨L, _, hf, hn, e, hd⟩, ih (fun b hb => hs b (by unfold frs; rw [List.filterMap_cons, hf]; exact List.mem_cons_of_mem _ hb)) hr⟩
  exact all X.outer (fun _ hb => hb) I.ok.funs

/-- the frames that run, for a call -/
theorem Inv.stack (I : Inv X pins σ H s) : s.heap.FunFrames X.base X.stack := by
  rcases I.ok.stk with e | ⟨e, hf⟩
  · rw [e]; exact I.funs
  · rw [e]
    obtain ⟨m, hn, _⟩ := I.loc
    refine .cons (by rw [I.ok.kind]; decide) hf hn ?_ I.funs
    exact Heap.get?_none_of_le (Nat.le_trans I.ok.bsz I.ok.above)
theorem Inv.stkSub (I : Inv X pins σ H s) : ∀ b ∈ frs X.stack, b ∈ X.env.locals :: X.fs := fun b hb => by
  rcases I.ok.stk with e | ⟨e, hf⟩
  · rw [e] at hb; exact List.mem_cons_of_mem _ hb
  · rw [e] at hb
    unfold frs at hb
    rw [List.filterMap_cons, hf] at hb
    exact hb
theorem Inv.stkFree (I : Inv X pins σ H s) : ∀ b ∈ frs X.stack, H b = none := fun b hb => by
  rcases List.mem_cons.mp (I.stkSub b hb) with e | hb
  · rw [e]; exact I.free
  · obtain ⟨_, o, ho, _⟩ := I.ok.funs.mem hb
    exact I.base.free b o ho (I.ok.frf b hb) fun z => I.ok.exfs b z hb

/-- THE STEP: the untracked objects but the frame and the records at ch are kept (the callers' frames up to slots), the frame's map is kept, the new abstract heap is held -/
theorem Inv.step {g' : Array GenState} {t' : Nat} {d' : Drawn} {ch : List Addr} (I : Inv X pins σ H s)
    (hch : ∀ b ∈ ch, (b ∈ X.ex ∨ X.s_0.heap.objs.size ≤ b) ∧ b ≠ X.env.locals ∧ (∀ x c, X.env.cells.lookup x = some c → c ≠ b) ∧ ∀ p ∈ X.pn ++ pins, p.1 ≠ b)
    (keep : ∀ b o, b ≠ X.env.locals → b ∉ X.fs → b ∉ ch → s.heap.get? b = some o → H b = none → h'.get? b = some o)
    (slot : ∀ b o, b ≠ X.env.locals → b ∈ X.fs → b ∉ ch → s.heap.get? b = some o → H b = none → ∃ sl, h'.get? b = some { o with slots := sl }) (free : ∀ b o, b ∉ ch → s.heap.get? b = some o → H b = none → H' b = none)
    (there : ∀ b o, b ∉ ch → s.heap.get? b = some o → ∃ o', h'.get? b = some o')
    (tups : ∀ b xs, H b = some (.tup xs) → H' b = some (.tup xs)) (frzs : ∀ b o u, H b = some (.frz o u) → H' b = some (.frz o u)) (tbls : ∀ b ps, H b = some (.tbl ps) → ∃ more, H' b = some (.tbl (ps ++ more)))
    (ns : ∀ m, s.heap.Ns X.env.locals m → h'.Ns X.env.locals m) (hok : HOk X.prog X.w H' h') (hg : AllBare g') :
    Inv X pins σ H' { s with heap := h', gens := g', drawn := d', toks := t' } := by
  have neL : ∀ b o, X.s_0.heap.get? b = some o → b ≠ X.env.locals := fun b o e => Nat.ne_of_lt (Nat.lt_of_lt_of_le (Heap.lt_size e) I.ok.above)
  have neC : ∀ b o, X.s_0.heap.get? b = some o → b ∉ X.ex → b ∉ ch := fun b o e hx hb => by
    rcases (hch b hb).1 with z | z
    · exact hx z
    · exact absurd (Nat.lt_of_lt_of_le (Heap.lt_size e) z) (Nat.lt_irrefl _)
  have cellK : ∀ x c, X.env.cells.lookup x = some c → ∀ v, s.heap.IsCell c v → h'.IsCell c v := fun x c e v ⟨o, ho, hd⟩ => by
    have nch : c ∉ ch := fun z => (hch c z).2.2.1 x c e rfl
    by_cases hc : c ∈ X.fs
    · obtain ⟨sl, q⟩ := slot c o (I.cne x c e) hc nch ho (I.freeC x c e)
      exact ⟨_, q, hd⟩
    · exact ⟨o, keep c o (I.cne x c e) hc nch ho (I.freeC x c e), hd⟩
  refine ⟨I.ok, I.os, hg, ⟨fun b o e n hb hx => ?_, fun b o e n hb hx => ?_, fun b o e n hx => ?_, fun b o e hx => ?_, fun b xs e => tups b xs (I.base.tups b xs e), fun b o xs e => frzs b o xs (I.base.frzs b o xs e), fun b ps e => ?_⟩, ?_, fun x c e => ?_, ?_, fun x c e => ?_, fun p hp => ?_, hok, I.len⟩
  · exact keep b o (neL b o e) hb (neC b o e hx) (I.base.keep b o e n hb hx) (I.base.free b o e n hx)
  · obtain ⟨sl, e1⟩ := I.base.slot b o e n hb hx
    obtain ⟨sl', e2⟩ := slot b _ (neL b o e) hb (neC b o e hx) e1 (I.base.free b o e n hx)
    exact ⟨sl', e2⟩
  · obtain ⟨o', e1⟩ := I.base.there b o e hx
    exact free b o' (neC b o e hx) e1 (I.base.free b o e n hx)
  · obtain ⟨o', e1⟩ := I.base.there b o e hx
    exact there b o' (neC b o e hx) e1
  · obtain ⟨m1, e1⟩ := I.base.tbls b ps e
    obtain ⟨m2, e2⟩ := tbls b _ e1
    exact ⟨m1 ++ m2, by rw [e2, Array.append_assoc]⟩
  · obtain ⟨m, hn, hl⟩ := I.loc
    refine ⟨m, ns m hn, fun i x v e1 e2 e3 => ?_⟩
    obtain ⟨u, r, l⟩ := hl i x v e1 e2 e3
    refine ⟨u, r, ?_⟩
    rcases l with l | ⟨k, c, e, z⟩
    · exact .inl l
    · exact .inr ⟨k, c, e, cellK x c e _ z⟩
  · obtain ⟨v, z⟩ := I.cell x c e
    exact ⟨v, cellK x c e v z⟩
  · obtain ⟨m, ⟨o, _, _, ho, _⟩, _⟩ := I.loc
    exact free _ o (fun z => (hch _ z).2.1 rfl) ho I.free
  · obtain ⟨v, o, ho, hd⟩ := I.cell x c e
    exact free c o (fun z => (hch c z).2.2.1 x c e rfl) ho (I.freeC x c e)
  · obtain ⟨e, n, ne, nf, d⟩ := I.pin p hp
    have nch : p.1 ∉ ch := fun z => (hch p.1 z).2.2.2 p hp rfl
    exact ⟨keep p.1 p.2 ne nf nch e n, free p.1 p.2 nch e n, ne, nf, d⟩
/-- .. where the frame's own object is kept too -/
theorem Inv.un {t' : Nat} (I : Inv X pins σ H s) (u : Un X.fs [] H H' s.heap h') (hok : HOk X.prog X.w H' h') : Inv X pins σ H' { s with heap := h', toks := t' } := by
  obtain ⟨m, ⟨o, es, ep, ho, r⟩, _⟩ := id I.loc
  obtain ⟨sl, hL⟩ := u.any ho I.free (by simp)
  exact I.step (g' := s.gens) (d' := s.drawn) (ch := []) (fun _ z => nomatch z) (fun b o _ hb _ e n => u.keep b o e n hb (by simp)) (fun b o _ hb _ e n => u.slot b o e n hb (by simp)) (fun b o _ e n => u.free b o e n (by simp)) (fun b o _ e => u.there b o e (by simp)) u.tups u.frzs u.tbls (fun m' hm => by
    obtain ⟨o', es', ep', ho', r'⟩ := hm
    rw [ho] at ho'; cases ho'
    exact ⟨_, es', ep', hL, r'⟩) hok I.bare
/-- behind a call (or a comprehension's block): the slots of this frame may have changed too, the records at ch may have turned -/
theorem Inv.call {g' : Array GenState} {t' : Nat} {d' : Drawn} {ch : List Addr} (I : Inv X pins σ H s) (u : Un (frs X.stack) ch H H' s.heap h') (hok : HOk X.prog X.w H' h') (hg : AllBare g')
    (hch : ∀ b ∈ ch, (b ∈ X.ex ∨ X.s_0.heap.objs.size ≤ b) ∧ b ≠ X.env.locals ∧ (∀ x c, X.env.cells.lookup x = some c → c ≠ b) ∧ ∀ p ∈ X.pn ++ pins, p.1 ≠ b) :
    Inv X pins σ H' { s with heap := h', gens := g', drawn := d', toks := t' } := by
  obtain ⟨m, ⟨o, es, ep, ho, r⟩, _⟩ := id I.loc
  obtain ⟨sl, hL⟩ := u.any ho I.free fun z => (hch _ z).2.1 rfl
  exact I.step (ch := ch) hch (fun b o hL hb hc e n => u.keep b o e n (fun z => (List.mem_cons.mp (I.stkSub b z)).elim hL hb) hc) (fun b o _ _ hc e n => u.any e n hc) (fun b o hc e n => u.free b o e n hc) (fun b o hc e => u.there b o e hc) u.tups u.frzs u.tbls (fun m' hm => by
    obtain ⟨o', es', ep', ho', r'⟩ := hm
    rw [ho] at ho'; cases ho'
    exact ⟨_, es', ep', hL, r'⟩) hok hg
/-- an untracked record of ours (an iterator) has turned -/
theorem Inv.turned {t' : Nat} {it : Addr} (I : Inv X pins σ H s) (k : ∀ b o, b ≠ it → s.heap.get? b = some o → h'.get? b = some o) (hn : H it = none) (hL : it ≠ X.env.locals)
    (h1 : it ∈ X.ex ∨ X.s_0.heap.objs.size ≤ it) (h2 : ∀ x c, X.env.cells.lookup x = some c → c ≠ it) (h3 : ∀ p ∈ X.pn ++ pins, p.1 ≠ it) : Inv X pins σ H { s with heap := h', toks := t' } := by
  have nit : ∀ b u, H b = some u → b ≠ it := fun b u e z => by rw [z, hn] at e; cases e
  refine I.step (g' := s.gens) (d' := s.drawn) (ch := [it]) (fun b hb => ?_) (fun b o _ _ hc e _ => k b o (fun z => hc (by simp [z])) e) (fun b o _ _ hc e _ => ⟨o.slots, k b o (fun z => hc (by simp [z])) e⟩) (fun _ _ _ _ n => n)
    (fun b o hc e => ⟨o, k b o (fun z => hc (by simp [z])) e⟩) (fun _ _ e => e) (fun _ _ _ e => e) (fun b ps e => ⟨#[], by rw [e]; simp⟩) (fun m hm => ?_) (fun b u e => ?_) I.bare
  · have e : b = it := by simpa using hb
    subst e
    exact ⟨h1, hL, h2, h3⟩
  · obtain ⟨o, es, ep, ho, r⟩ := hm
    exact ⟨o, es, ep, k _ o (Ne.symm hL) ho, r⟩
  · refine (I.hok b u e).stay (fun c v hc q => k c v ?_ q) (fun _ q => q) fun _ _ q => q
    rcases hc with z | z
    · rw [z]; exact nit b u e
    · exact nit c _ z
theorem Inv.tok (I : Inv X pins σ H s) (t : Nat) : Inv X pins σ H { s with toks := t } := I.un (h' := s.heap) (t' := t) Un.refl I.hok
/-- all objects kept -/
theorem Inv.kept {t' : Nat} (I : Inv X pins σ H s) (k : ∀ b u, s.heap.get? b = some u → h'.get? b = some u) : Inv X pins σ H { s with heap := h', toks := t' } := I.un (Un.kept k) (I.hok.kept k)
/-- a new object laid and tracked -/
theorem Inv.laid {a : Addr} {o : HO} {t' : Nat} (I : Inv X pins σ H s) (k : ∀ b u, s.heap.get? b = some u → h'.get? b = some u) (hp : s.heap.objs.size ≤ a) (new : ObjOk X.prog X.w (upd H a o) h' a o) :
    Inv X pins σ (upd H a o) { s with heap := h', toks := t' } := I.un (Un.laid k hp (I.hok.fresh hp)) (I.hok.laid k hp new)
/-- an object written -/
theorem Inv.write {x e : Addr} {o : HO} {t' : Nat} (I : Inv X pins σ H s) (mu : Mut (H x)) (he : e = x ∨ H e = some (.own x)) (k : ∀ b u, b ≠ e → s.heap.get? b = some u → h'.get? b = some u) (heo : ∃ u, h'.get? e = some u)
    (new : ObjOk X.prog X.w (upd H x o) h' x o) : Inv X pins σ (upd H x o) { s with heap := h', toks := t' } := I.un (Un.write mu he k heo) (I.hok.write mu he k heo new)
/-- forgetting slots, pins -/
theorem Inv.weak {σ' : List (Option V)} (I : Inv X pins σ H s) (hl : σ'.length = σ.length) (w : ∀ (i : Nat) v, σ'[i]? = some (some v) → σ[i]? = some (some v)) : Inv X pins σ' H s :=
  ⟨I.ok, I.os, I.bare, I.base, let ⟨m, hn, hl'⟩ := I.loc; ⟨m, hn, fun i x v e1 e2 e3 => hl' i x v e1 (w i v e2) e3⟩, I.cell, I.free, I.freeC, I.pin, I.hok, hl.trans I.len⟩
theorem Inv.pins_of {pins' : List (Addr × Obj)} (I : Inv X pins σ H s) (h : ∀ p ∈ pins', s.heap.get? p.1 = some p.2 ∧ H p.1 = none ∧ p.1 ≠ X.env.locals ∧ p.1 ∉ X.fs ∧ ∀ v, p.2.data ≠ .cell v) : Inv X pins' σ H s :=
  ⟨I.ok, I.os, I.bare, I.base, I.loc, I.cell, I.free, I.freeC, fun p hp => (List.mem_append.mp hp).elim (fun z => I.pin p (List.mem_append_left _ z)) (h p), I.hok, I.len⟩

theorem nodup_ix {N : List Str} (hN : N.Nodup) {i j : Nat} {x : Str} (a : N[i]? = some x) (b : N[j]? = some x) : i = j := by
  obtain ⟨h1, e1⟩ := List.getElem?_eq_some_iff.mp a
  obtain ⟨h2, e2⟩ := List.getElem?_eq_some_iff.mp b
  exact (List.getElem_inj hN).mp (e1.trans e2.symm)

/-- a name is stored; what changed -/
theorem store_ok2 {M : Model} {A : Around} {E : Value → Shared → Prop} {i : Nat} {x : Str} {v : V} {u : Value} {Q : Unit → Shared → Prop} (I : Inv X pins σ H s) (hN : X.N.Nodup) (hi : X.N[i]? = some x) (hx : Loc X.env.scope x) (r : RelV v u)
    (h : ∀ s', Inv X pins (σ.set i (some v)) H s' → (∃ a, Heap.SameBut a s.heap s'.heap ∧ (a = X.env.locals ∨ X.env.cells.lookup x = some a)) → Q () s') (hf : X.fn x = true ∨ X.env.scope.names.lookup x = some .local := by first | exact .inl rfl | exact .inr rfl | assumption) : wpAny M A (storeName X.env x u) Q E s := by
  obtain ⟨m, hn, hl⟩ := id I.loc
  have hcls : (X.env.scope.kind == .class || (X.env.scope.kind == .module && X.env.locals != X.env.globals)) = false := by rw [I.ok.kind]; rfl
  have hiσ : i < σ.length := by rw [I.len]; exact (List.getElem?_eq_some_iff.mp hi).1
  have cne := I.cne
  have tracked : ∀ {a : Addr} {h' : Heap}, (∃ o, s.heap.get? a = some o ∧ H a = none) → Heap.SameBut a s.heap h' → HOk X.prog X.w H h' := fun {a h'} ha hs b ob e => by
    obtain ⟨_, _, hfree⟩ := ha
    refine (I.hok b ob e).stay (fun c w' hc q => (hs.2 c ?_).trans q) (fun _ q => q) fun _ _ q => q
    rintro rfl
    rcases hc with rfl | hc
    · rw [hfree] at e; cases e
    · rw [hfree] at hc; cases hc
  rcases hx with hk | hk
  · refine wpAny_storeName_local hk hn (fun h' hn' hs => ?_) hcls
    obtain ⟨oL, _, _, hoL, _⟩ := id hn
    refine h _ ⟨I.ok, I.os, I.bare, ⟨fun b o e n hb hx => ?_, fun b o e n hb hx => ?_, I.base.free, fun b o e hx => ?_, I.base.tups, I.base.frzs, I.base.tbls⟩, ⟨_, hn', fun j y v' e1 e2 e3 => ?_⟩, fun y c e => ?_, I.free, I.freeC, fun p hp => ?_, tracked ⟨oL, hoL, I.free⟩ hs, by simpa using I.len⟩ ⟨_, hs, .inl rfl⟩
    · exact (hs.2 b (Nat.ne_of_lt (Nat.lt_of_lt_of_le (Heap.lt_size e) I.ok.above))).trans (I.base.keep b o e n hb hx)
    · obtain ⟨sl, e1⟩ := I.base.slot b o e n hb hx
      exact ⟨sl, (hs.2 b (Nat.ne_of_lt (Nat.lt_of_lt_of_le (Heap.lt_size e) I.ok.above))).trans e1⟩
    · obtain ⟨o', e1⟩ := I.base.there b o e hx
      exact ⟨o', (hs.2 b (Nat.ne_of_lt (Nat.lt_of_lt_of_le (Heap.lt_size e) I.ok.above))).trans e1⟩
    · by_cases hj : j = i
      · subst hj
        rw [hi] at e1; cases e1
        rw [List.getElem?_set_self hiσ] at e2
        cases e2
        exact ⟨u, r, .inl ⟨hk, by simp⟩⟩
      · rw [List.getElem?_set_ne (Ne.symm hj)] at e2
        obtain ⟨u', r', q⟩ := hl j y v' e1 e2 e3
        refine ⟨u', r', ?_⟩
        rcases q with ⟨k, e⟩ | ⟨k, c, e, z⟩
        · refine .inl ⟨k, ?_⟩
          have : y ≠ x := fun e => hj (nodup_ix hN e1 (e ▸ hi))
          simp [this, e]
        · exact .inr ⟨k, c, e, z.sameBut hs (cne y c e)⟩
    · obtain ⟨w', z⟩ := I.cell y c e
      exact ⟨w', z.sameBut hs (cne y c e)⟩
    · obtain ⟨e, n, ne, nf, d⟩ := I.pin p hp
      exact ⟨(hs.2 p.1 ne).trans e, n, ne, nf, d⟩
  · have hfn : X.fn x = true := by
      rcases hf with z | z
      · exact z
      · rw [z] at hk; cases hk
    obtain ⟨c, hc⟩ := I.ok.has x (.inl hk)
    obtain ⟨w', z⟩ := I.cell x c hc
    refine wpAny_storeName_cell I.ok.kind hk hc z (fun h' hc' hs => ?_)
    obtain ⟨oc, hoc, hocd⟩ := id z
    refine h { s with heap := h' } ⟨I.ok, I.os, I.bare, ⟨fun b o e n hb hx => ?_, fun b o e n hb hx => ?_, I.base.free, fun b o e hx => ?_, I.base.tups, I.base.frzs, I.base.tbls⟩, ⟨m, hn.sameBut hs (Ne.symm (cne x c hc)), fun j y v' e1 e2 e3 => ?_⟩, fun y c' e => ?_, I.free, I.freeC, fun p hp => ?_, tracked ⟨oc, hoc, I.freeC x c hc⟩ hs, by simpa using I.len⟩ ⟨c, hs, .inr hc⟩
    · exact (hs.2 b (Nat.ne_of_lt (Nat.lt_of_lt_of_le (Heap.lt_size e) (I.ok.cab x c hfn hc)))).trans (I.base.keep b o e n hb hx)
    · obtain ⟨sl, e1⟩ := I.base.slot b o e n hb hx
      exact ⟨sl, (hs.2 b (Nat.ne_of_lt (Nat.lt_of_lt_of_le (Heap.lt_size e) (I.ok.cab x c hfn hc)))).trans e1⟩
    · obtain ⟨o', e1⟩ := I.base.there b o e hx
      exact ⟨o', (hs.2 b (Nat.ne_of_lt (Nat.lt_of_lt_of_le (Heap.lt_size e) (I.ok.cab x c hfn hc)))).trans e1⟩
    · by_cases hj : j = i
      · subst hj
        rw [hi] at e1; cases e1
        rw [List.getElem?_set_self hiσ] at e2
        cases e2
        exact ⟨u, r, .inr ⟨.inl hk, c, hc, hc'⟩⟩
      · rw [List.getElem?_set_ne (Ne.symm hj)] at e2
        obtain ⟨u', r', q⟩ := hl j y v' e1 e2 e3
        refine ⟨u', r', ?_⟩
        rcases q with q | ⟨k, c', e, z'⟩
        · exact .inl q
        · refine .inr ⟨k, c', e, z'.sameBut hs ?_⟩
          rintro rfl
          exact hj (nodup_ix hN e1 (I.ok.inj _ _ _ e hc ▸ hi))
    · by_cases hcc : c' = c
      · subst hcc; exact ⟨_, hc'⟩
      · obtain ⟨w2, z2⟩ := I.cell y c' e
        exact ⟨w2, z2.sameBut hs hcc⟩
    · obtain ⟨e, n, ne, nf, d⟩ := I.pin p hp
      refine ⟨(hs.2 p.1 ?_).trans e, n, ne, nf, d⟩
      intro q
      rw [q, hoc] at e
      have q' : oc = p.2 := Option.some.inj e
      exact d w' (by rw [← q']; exact hocd)
theorem store_ok {M : Model} {A : Around} {E : Value → Shared → Prop} {i : Nat} {x : Str} {v : V} {u : Value} {Q : Unit → Shared → Prop} (I : Inv X pins σ H s) (hN : X.N.Nodup) (hi : X.N[i]? = some x) (hx : Loc X.env.scope x) (r : RelV v u)
    (h : ∀ s', Inv X pins (σ.set i (some v)) H s' → Q () s') (hf : X.fn x = true ∨ X.env.scope.names.lookup x = some .local := by first | exact .inl rfl | exact .inr rfl | assumption) : wpAny M A (storeName X.env x u) Q E s :=
  store_ok2 I hN hi hx r (fun s' I' _ => h s' I') hf
/-- behind a call or a block, the state as it is -/
theorem Inv.call' {s' : Shared} {ch : List Addr} (I : Inv X pins σ H s) (ho : s'.os = s.os) (u : Un (frs X.stack) ch H H' s.heap s'.heap) (hok : HOk X.prog X.w H' s'.heap) (hg : AllBare s'.gens)
    (hch : ∀ b ∈ ch, (b ∈ X.ex ∨ X.s_0.heap.objs.size ≤ b) ∧ b ≠ X.env.locals ∧ (∀ x c, X.env.cells.lookup x = some c → c ≠ b) ∧ ∀ p ∈ X.pn ++ pins, p.1 ≠ b) : Inv X pins σ H' s' := by
  obtain ⟨h', g', d', t', o'⟩ := s'
  have e : o' = s.os := ho
  subst e
  exact I.call (g' := g') (t' := t') (d' := d') u hok hg hch
end

/-! ### the judgements -/
/-- an exception: its class, its own dict's address (where it has one), the abstract heap behind it -/
abbrev XK := Value → Option Addr → Hp → Prop
abbrev St := List (Option V)
abbrev VK := V → Hp → Prop
/-- an expression's reading; a test's; an argument list's -/
abbrev TE := St → Hp → VK → Prop
abbrev TT := St → Hp → (Bool → Hp → Prop) → Prop
abbrev TA := St → Hp → (List V → Hp → Prop) → Prop
/-- what is wanted behind a statement -/
structure Ends where
  nx : St → Hp → Prop
  rt : VK
  bk : St → Hp → Prop := fun _ _ => False
  ct : St → Hp → Prop := fun _ _ => False
abbrev TS := Ends → St → Hp → Prop

def EP (X : Cx) (pins : List (Addr × Obj)) (σ : St) (Q : VK) (u : Value) (s' : Shared) : Prop := ∃ v H', Inv X pins σ H' s' ∧ RelV v u ∧ Q v H'
def TP (X : Cx) (pins : List (Addr × Obj)) (σ : St) (Q : Bool → Hp → Prop) (b : Bool) (s' : Shared) : Prop := ∃ H', Inv X pins σ H' s' ∧ Q b H'
def AP (X : Cx) (pins : List (Addr × Obj)) (σ : St) (Q : List V → Hp → Prop) (us : List Value) (s' : Shared) : Prop := ∃ vs H', Inv X pins σ H' s' ∧ Vals vs us ∧ Q vs H'
def SP (X : Cx) (pins : List (Addr × Obj)) (D : Ends) (f : Flow) (s' : Shared) : Prop :=
  match f with
  | .next => ∃ σ' H', Inv X pins σ' H' s' ∧ D.nx σ' H'
  | .brk => ∃ σ' H', Inv X pins σ' H' s' ∧ D.bk σ' H'
  | .cont => ∃ σ' H', Inv X pins σ' H' s' ∧ D.ct σ' H'
  | .ret u => ∃ v σ' H', Inv X pins σ' H' s' ∧ RelV v u ∧ D.rt v H'

def PE (X : Cx) (e : Expr) (t : TE) : Prop :=
  ∀ (pins : List (Addr × Obj)) (s : Shared) (σ : St) (H : Hp) (Q : VK), Inv X pins σ H s → t σ H Q → wpAny (model X.prog X.w) X.A (eval e X.env) (EP X pins σ Q) X.xe s
def PT (X : Cx) (e : Expr) (t : TT) : Prop :=
  ∀ (pins : List (Addr × Obj)) (s : Shared) (σ : St) (H : Hp) (Q : Bool → Hp → Prop), Inv X pins σ H s → t σ H Q → wpAny (model X.prog X.w) X.A (isTrue e X.env (eval e X.env)) (TP X pins σ Q) X.xe s
/-- a test whatever its 'whole' is (and, or) -/
def PW (X : Cx) (e : Expr) (t : TT) : Prop :=
  ∀ (whole : Sem Value) (pins : List (Addr × Obj)) (s : Shared) (σ : St) (H : Hp) (Q : Bool → Hp → Prop), Inv X pins σ H s → t σ H Q → wpAny (model X.prog X.w) X.A (isTrue e X.env whole) (TP X pins σ Q) X.xe s
theorem PW.pt {X : Cx} {e : Expr} {t : TT} (h : PW X e t) : PT X e t := h _
/-- an argument list (no star), from the left -/
def PA (X : Cx) (es : List Expr) (t : TA) : Prop :=
  ∀ (pos : Pos) (pins : List (Addr × Obj)) (s : Shared) (σ : St) (H : Hp) (Q : List V → Hp → Prop), Inv X pins σ H s → t σ H Q → wpAny (model X.prog X.w) X.A (spliced (backTo pos (starEach es X.env))) (AP X pins σ Q) X.xe s
def PS (X : Cx) (st : Stmt) (t : TS) : Prop :=
  ∀ (pins : List (Addr × Obj)) (s : Shared) (σ : St) (H : Hp) (D : Ends), Inv X pins σ H s → t D σ H → wpAny (model X.prog X.w) X.A (exec st X.env) (SP X pins D) X.xe s
def PSs (X : Cx) (st : List Stmt) (t : TS) : Prop :=
  ∀ (pins : List (Addr × Obj)) (s : Shared) (σ : St) (H : Hp) (D : Ends), Inv X pins σ H s → t D σ H → wpAny (model X.prog X.w) X.A (execs st X.env) (SP X pins D) X.xe s
/-- weaken the end -/
theorem thn {α : Type} {t : Sem α} {Q Q' : α → Shared → Prop} {M : Model} {A : Around} {E : Value → Shared → Prop} {s : Shared} (h : wpAny M A t Q E s) (hQ : ∀ a s, Q a s → Q' a s) : wpAny M A t Q' E s := wpAny_mono h hQ fun _ _ x => x
end L2

namespace L2
open PySem PySem.Spec PyProof.Rows
section
variable {X : Cx}

/-- two expressions in a row -/
theorem bin {a b : Expr} {ta tb : TE} (ha : PE X a ta) (hb : PE X b tb) {pins : List (Addr × Obj)} {s : Shared} {σ : St} {H : Hp} {R : V → V → Hp → Prop} (I : Inv X pins σ H s) (h : ta σ H fun x H1 => tb σ H1 fun y H2 => R x y H2)
    {α : Type} {Q : α → Shared → Prop} {f : Value → Value → Sem α}
    (hf : ∀ v u s2 x y H2, Inv X pins σ H2 s2 → RelV x v → RelV y u → R x y H2 → wpAny (model X.prog X.w) X.A (f v u) Q X.xe s2) :
    wpAny (model X.prog X.w) X.A (eval a X.env) (fun v s₁ => wpAny (model X.prog X.w) X.A (eval b X.env) (fun u s₂ => wpAny (model X.prog X.w) X.A (f v u) Q X.xe s₂) X.xe s₁) X.xe s := by
  refine thn (ha pins s σ H _ I h) fun v s1 ⟨x, H1, I1, r1, q1⟩ => ?_
  refine thn (hb pins s1 σ H1 _ I1 q1) fun u s2 ⟨y, H2, I2, r2, q2⟩ => ?_
  exact hf v u s2 x y H2 I2 r1 r2 q2

/-! ### names and constants -/
def tVar (i : Nat) : TE := fun σ H Q => ∃ v, σ[i]? = some (some v) ∧ Q v H
def tC (v : V) : TE := fun _ H Q => Q v H
theorem pe_var {i : Nat} {x : Str} {pos : Pos} (hN : X.N[i]? = some x) (hv : Vis X.env.scope x) (hd : (x == ("__debug__" : Str)) = false := by decide) (hcd : (x == ("__classdict__" : Str)) = false := by decide) : PE X (.Name x pos) (tVar i) := by
  intro pins s σ H Q I h
  obtain ⟨v, e, h⟩ := h
  obtain ⟨m, hn, hl⟩ := I.loc
  obtain ⟨u, r, l⟩ := hl i x v hN e hv
  have fin : EP X pins σ Q u s := ⟨v, H, I, r, h⟩
  rcases l with ⟨hk, hm⟩ | ⟨hk, c, hc, hcell⟩
  · exact wpAny_Name (wpAny_loadName_local I.ok.kind hk hn hm fin) hd
  · rcases hk with hk | hk
    · exact wpAny_Name (wpAny_loadName_cell I.ok.kind hk hc hcell fin) hd
    · exact wpAny_Name (wpAny_loadName_free I.ok.kind hk hc hcell fin hcd) hd
theorem pe_int {i j pos} : PE X (.Constant (.int i) j pos) (tC (.int i)) := fun _ _ _ H _ I h => wpAny_Constant_int ⟨.int i, H, I.tok _, ⟨_, rfl⟩, h⟩
theorem pe_bl {b j pos} : PE X (.Constant (.bool b) j pos) (tC (.bl b)) := fun _ _ _ H _ I h => Constant_bool ⟨.bl b, H, I, rfl, h⟩
theorem pe_non {j pos} : PE X (.Constant .none j pos) (tC .non) := fun _ _ _ H _ I h => Constant_none ⟨.non, H, I, rfl, h⟩

/-- a global name of the def -/
def Gl (X : Cx) (x : Str) : Prop := X.env.kindOf x = some .globalImplicit
theorem ld_glob {E : Value → Shared → Prop} {pins : List (Addr × Obj)} {s : Shared} {σ : St} {H : Hp} {x : Str} {u : Value} {pos : Pos} {Q : Value → Shared → Prop} (I : Inv X pins σ H s) (hg : Gl X x) (hm : X.mg x = some u) (h : Q u s)
    (hd : (x == ("__debug__" : Str)) = false := by decide) : wpAny (model X.prog X.w) X.A (eval (.Name x pos) X.env) Q E s :=
  Calls.Name_function_global I.ok.kind hg (Calls.loadGlobal_global (by rw [I.ok.glob]; exact I.mod.glob.keeps I.bk) hm h) hd
theorem ld_blt {E : Value → Shared → Prop} {pins : List (Addr × Obj)} {s : Shared} {σ : St} {H : Hp} {x : Str} {u : Value} {pos : Pos} {Q : Value → Shared → Prop} (I : Inv X pins σ H s) (hg : Gl X x) (hm : X.mg x = none) (hv : bootBuiltins x = some u) (h : Q u s)
    (hn : x ≠ "__name__" := by decide) (hd : (x == ("__debug__" : Str)) = false := by decide) : wpAny (model X.prog X.w) X.A (eval (.Name x pos) X.env) Q E s := by
  obtain ⟨mb, h1, h2⟩ := I.mod.blt
  exact Calls.Name_function_global I.ok.kind hg (Calls.loadGlobal_builtin (by rw [I.ok.glob]; exact I.mod.glob.keeps I.bk) hm (by rw [I.ok.blt]; exact h1.keeps I.bk) ((h2 x hn).trans hv) h) hd
/-- a module's constant, a class, a function, as a value -/
theorem pe_glob {x : Str} {v : V} {u : Value} {pos : Pos} (hg : Gl X x) (hm : X.mg x = some u) (r : RelV v u) (hd : (x == ("__debug__" : Str)) = false := by decide) : PE X (.Name x pos) (tC v) :=
  fun _ _ _ H _ I h => ld_glob I hg hm ⟨v, H, I, r, h⟩ hd

/-! ### arithmetic -/
variable {a b : Expr} {ta tb : TE} {pos : Pos}

/-! ### comparisons -/
def PC (X : Cx) (op : CmpOp) (a b : Expr) (t : TE) : Prop :=
  ∀ (pins : List (Addr × Obj)) (s : Shared) (σ : St) (H : Hp) (Q : VK), Inv X pins σ H s → t σ H Q →
    wpAny (model X.prog X.w) X.A (eval a X.env) (fun v s₁ => wpAny (model X.prog X.w) X.A (eval b X.env) (fun u s₂ => wpAny (model X.prog X.w) X.A (compareOp op v u) (EP X pins σ Q) X.xe s₂) X.xe s₁) X.xe s
theorem nobehind (b : Expr) {op : CmpOp} (h : op ≠ .In) (h2 : op ≠ .NotIn) : behindInMarks op b = false := by
  have e1 : (op == CmpOp.In) = false := by cases op <;> first | rfl | exact absurd rfl h
  have e2 : (op == CmpOp.NotIn) = false := by cases op <;> first | rfl | exact absurd rfl h2
  cases b <;> simp [behindInMarks, e1, e2]
/-- is None -/
def tIsN (ta : TE) : TE := fun σ H Q => ta σ H fun x H1 => Q (.bl (decide (x = .non))) H1
def tNotN (ta : TE) : TE := fun σ H Q => ta σ H fun x H1 => Q (.bl (!decide (x = .non))) H1
theorem RelV.none_iff {x : V} {v : Value} (r : RelV x v) : (v == Value.none) = decide (x = .non) := by
  cases x with
  | non => cases r; rfl
  | bl _ => cases r; rfl
  | int _ => obtain ⟨t, rfl⟩ := r; rfl
  | str _ => obtain ⟨t, rfl⟩ := r; rfl
  | byt _ => obtain ⟨t, rfl⟩ := r; rfl
  | flt _ => obtain ⟨t, rfl⟩ := r; rfl
  | ref _ => cases r; rfl
  | ty _ => cases r; rfl
theorem pc_isN {j pos'} (ha : PE X a ta) : PC X .Is a (.Constant .none j pos') (tIsN ta) := by
  intro pins s σ H Q I h
  refine thn (ha pins s σ H _ I h) fun v s1 ⟨x, H1, I1, r1, q1⟩ => ?_
  exact Constant_none (is_none_gen ⟨.bl _, H1, I1, by rw [r1.none_iff]; rfl, q1⟩)
theorem pc_notN {j pos'} (ha : PE X a ta) : PC X .IsNot a (.Constant .none j pos') (tNotN ta) := by
  intro pins s σ H Q I h
  refine thn (ha pins s σ H _ I h) fun v s1 ⟨x, H1, I1, r1, q1⟩ => ?_
  exact Constant_none (isnot_none_gen ⟨.bl _, H1, I1, by rw [r1.none_iff]; rfl, q1⟩)
/-- a comparison as a value, as a test -/
def tB (t : TE) : TT := fun σ H Q => t σ H fun x H1 => ∃ c, x = .bl c ∧ Q c H1
theorem pt_cmp {op : CmpOp} {t : TE} (h : PC X op a b t) (h1 : behindInMarks op b = false := by first | exact nobehind _ (by decide) (by decide) | rfl) : PT X (.Compare a [op] [b] pos) (tB t) := by
  intro pins s σ H Q I hw
  refine wpAny_isTrue_Compare1 (thn (h pins s σ H _ I hw) fun v s1 h1 => thn h1 fun u s2 h2 => thn h2 fun c s3 ⟨x, H1, I1, r1, q1⟩ => ?_) h1
  obtain ⟨d, rfl, q⟩ := q1
  cases r1
  exact wpAny_truthy_bool ⟨H1, I1, q⟩

/-! ### and, or, not -/
variable {tA tB' : TT} {rest : List Expr}
def tAnd (t u : TT) : TT := fun σ H Q => t σ H fun c H1 => if c = true then u σ H1 Q else Q false H1
def tOr (t u : TT) : TT := fun σ H Q => t σ H fun c H1 => if c = true then Q true H1 else u σ H1 Q
def tNot (t : TT) : TT := fun σ H Q => t σ H fun c H1 => Q (!c) H1
theorem pw_and1 (ha : PT X a tA) : PW X (.BoolOp .And [a] pos) tA := by
  intro wh pins s σ H Q I h
  refine isTrue_and (thn (ha pins s σ H Q I h) fun c s1 e => ?_)
  cases c with
  | true => exact isTrue_and_nil e
  | false => exact e
theorem pw_or1 (ha : PT X a tA) : PW X (.BoolOp .Or [a] pos) tA := by
  intro wh pins s σ H Q I h
  refine isTrue_or (thn (ha pins s σ H Q I h) fun c s1 e => ?_)
  cases c with
  | false => exact isTrue_or_nil e
  | true => exact e
theorem pw_and (ha : PT X a tA) (hb : PW X (.BoolOp .And (b :: rest) pos) tB') : PW X (.BoolOp .And (a :: b :: rest) pos) (tAnd tA tB') := by
  intro wh pins s σ H Q I h
  refine isTrue_and (thn (ha pins s σ H _ I h) fun c s1 ⟨H1, I1, q1⟩ => ?_)
  cases c with
  | true => exact hb wh pins s1 σ H1 Q I1 q1
  | false => exact ⟨H1, I1, q1⟩
theorem pw_or (ha : PT X a tA) (hb : PW X (.BoolOp .Or (b :: rest) pos) tB') : PW X (.BoolOp .Or (a :: b :: rest) pos) (tOr tA tB') := by
  intro wh pins s σ H Q I h
  refine isTrue_or (thn (ha pins s σ H _ I h) fun c s1 ⟨H1, I1, q1⟩ => ?_)
  cases c with
  | true => exact ⟨H1, I1, q1⟩
  | false => exact hb wh pins s1 σ H1 Q I1 q1
theorem pt_not (ha : PT X a tA) : PT X (.UnaryOp .Not a pos) (tNot tA) := by
  intro pins s σ H Q I h
  exact isTrue_not (ha pins s σ H (fun c H1 => Q (!c) H1) I h)
/-- .. as values (bools) -/
def tAndV (ta tb : TE) : TE := fun σ H Q => ta σ H fun x H1 => ∃ c, x = .bl c ∧ if c = true then tb σ H1 Q else Q (.bl false) H1
def tOrV (ta tb : TE) : TE := fun σ H Q => ta σ H fun x H1 => ∃ c, x = .bl c ∧ if c = true then Q (.bl true) H1 else tb σ H1 Q
def tNotV (ta : TE) : TE := fun σ H Q => ta σ H fun x H1 => ∃ c, x = .bl c ∧ Q (.bl (!c)) H1
theorem pe_one {op} {t : TE} (h : PE X a t) : PE X (.BoolOp op [a] pos) t := fun pins s σ H Q I hw => BoolOp_one (h pins s σ H Q I hw)
theorem pe_and (ha : PE X a ta) (hb : PE X (.BoolOp .And (b :: rest) pos) tb) : PE X (.BoolOp .And (a :: b :: rest) pos) (tAndV ta tb) := by
  intro pins s σ H Q I h
  refine BoolOp_and (thn (ha pins s σ H _ I h) fun v s1 ⟨x, H1, I1, r1, q1⟩ => ?_)
  obtain ⟨c, rfl, q1⟩ := q1
  cases r1
  refine wpAny_truthy_bool ?_
  cases c with
  | true => exact hb pins s1 σ H1 Q I1 q1
  | false => exact ⟨.bl false, H1, I1, rfl, q1⟩
theorem pe_or (ha : PE X a ta) (hb : PE X (.BoolOp .Or (b :: rest) pos) tb) : PE X (.BoolOp .Or (a :: b :: rest) pos) (tOrV ta tb) := by
  intro pins s σ H Q I h
  refine BoolOp_or (thn (ha pins s σ H _ I h) fun v s1 ⟨x, H1, I1, r1, q1⟩ => ?_)
  obtain ⟨c, rfl, q1⟩ := q1
  cases r1
  refine wpAny_truthy_bool ?_
  cases c with
  | false => exact hb pins s1 σ H1 Q I1 q1
  | true => exact ⟨.bl true, H1, I1, rfl, q1⟩
theorem pe_not (ha : PE X a ta) : PE X (.UnaryOp .Not a pos) (tNotV ta) := by
  intro pins s σ H Q I h
  refine UnaryOp_ (thn (ha pins s σ H _ I h) fun v s1 ⟨x, H1, I1, r1, q1⟩ => ?_)
  obtain ⟨c, rfl, q1⟩ := q1
  cases r1
  exact not_of (wpAny_truthy_bool ⟨.bl (!c), H1, I1, rfl, q1⟩)
/-- a if t else b -/
def tIf (t : TT) (ta tb : TE) : TE := fun σ H Q => t σ H fun c H1 => if c = true then ta σ H1 Q else tb σ H1 Q
theorem pe_ifExp {c : Expr} (hc : PT X c tA) (ha : PE X a ta) (hb : PE X b tb) : PE X (.IfExp c a b pos) (tIf tA ta tb) := by
  intro pins s σ H Q I h
  refine wpAny_IfExp (thn (hc pins s σ H _ I h) fun d s1 ⟨H1, I1, q1⟩ => ?_)
  cases d with
  | true => exact ha pins s1 σ H1 Q I1 q1
  | false => exact hb pins s1 σ H1 Q I1 q1
end
end L2

namespace L2
open PySem PySem.Spec PyProof.Rows

/-! ### a list, a tuple that is read: tracked, frozen, or an object of the module -/
def SqL (K : PySem.W.Frag) (H : Hp) (a : Addr) (xs : List V) : Prop :=
  Rd H a (.lst xs) ∨
    ∃ (o : Obj) (its : Array Value) (n : Nat), K.lookup a = some o ∧ o.cls = .type "list" ∧ o.dict = none ∧ o.data = .seq its n ∧ its.size ≤ sizeLine ∧ Vals xs its.toList
def SqT (K : PySem.W.Frag) (H : Hp) (a : Addr) (xs : List V) : Prop :=
  Rd H a (.tup xs) ∨
    ∃ (o : Obj) (its : Array Value) (n : Nat), K.lookup a = some o ∧ o.cls = .type "tuple" ∧ o.data = .seq its n ∧ its.size ≤ sizeLine ∧ Vals xs its.toList
def absV : Value → Option V
  | .none => some .non
  | .bool b => some (.bl b)
  | .int i _ => some (.int i)
  | .str x _ => some (.str x)
  | .bytes b _ => some (.byt b)
  | .float b _ => some (.flt b)
  | .ref a => some (.ref a)
  | .type n => some (.ty n)
  | _ => none
theorem RelV.abs {x : V} {u : Value} (r : RelV x u) : absV u = some x := by
  cases x with
  | non => cases r; rfl
  | bl _ => cases r; rfl
  | int _ => obtain ⟨t, rfl⟩ := r; rfl
  | str _ => obtain ⟨t, rfl⟩ := r; rfl
  | byt _ => obtain ⟨t, rfl⟩ := r; rfl
  | flt _ => obtain ⟨t, rfl⟩ := r; rfl
  | ref _ => cases r; rfl
  | ty _ => cases r; rfl
theorem RelV.inj {x y : V} {u : Value} (r : RelV x u) (q : RelV y u) : x = y := Option.some.inj (r.abs.symm.trans q.abs)
theorem Vals.inj : ∀ {xs ys : List V} {us : List Value}, Vals xs us → Vals ys us → xs = ys
  | _, _, _, .nil, .nil => rfl
  | _, _, _, .cons r t, .cons r' t' => by rw [r.inj r', Vals.inj t t']
section
variable {X : Cx} {pins : List (Addr × Obj)} {σ : St} {H : Hp} {s : Shared} {a : Addr} {xs ys : List V}
theorem SqL.of {K : PySem.W.Frag} (h : H a = some (.lst xs)) : SqL K H a xs := .inl (.inl h)
theorem SqT.of {K : PySem.W.Frag} (h : H a = some (.tup xs)) : SqT K H a xs := .inl (.inl h)
theorem Inv.list (I : Inv X pins σ H s) (h : SqL X.K H a xs) : ∃ its : List Value, Vals xs its ∧ PlainL s.heap a its.toArray ∧ xs.length ≤ sizeLine := by
  rcases h with h | ⟨o, its, n, hk, hc, hd, hs, hz, r⟩
  · obtain ⟨z, its, n, r, e⟩ := h.ok I.hok
    exact ⟨its, r, ⟨_, n, e, rfl, rfl, rfl⟩, z⟩
  · refine ⟨its.toList, r, ⟨o, n, I.kIn a o hk, hc, hd, by simpa using hs⟩, ?_⟩
    have e := r.length
    simp only [Array.length_toList] at e
    omega
theorem Inv.tuple (I : Inv X pins σ H s) (h : SqT X.K H a xs) : ∃ its : List Value, Vals xs its ∧ IsTup s.heap a its.toArray ∧ xs.length ≤ sizeLine := by
  rcases h with h | ⟨o, its, n, hk, hc, hs, hz, r⟩
  · obtain ⟨z, its, r, p⟩ := h.ok I.hok
    exact ⟨its, r, p, z⟩
  · refine ⟨its.toList, r, ⟨o, I.kIn a o hk, hc, n, by simpa using hs⟩, ?_⟩
    have e := r.length
    simp only [Array.length_toList] at e
    omega
theorem Inv.list_inj (I : Inv X pins σ H s) (h : SqL X.K H a xs) (h' : SqL X.K H a ys) : xs = ys := by
  obtain ⟨its, r, ⟨o, n, e, _, _, d⟩, _⟩ := I.list h
  obtain ⟨its', r', ⟨o', n', e', _, _, d'⟩, _⟩ := I.list h'
  rw [e] at e'; cases e'
  rw [d] at d'
  injection d' with d1 _
  have : its = its' := by simpa using congrArg Array.toList d1
  subst this
  exact r.inj r'
end

/-! ### another wish about exceptions -/
abbrev Cx.wish (X : Cx) (E : Value → Shared → Prop) : Cx := { X with xe := E }
/-- no exception leaves -/
abbrev Cx.nox (X : Cx) : Cx := X.wish fun _ _ => False
theorem Cx.Ok.wish {X : Cx} (ok : X.Ok) (E : Value → Shared → Prop) : (X.wish E).Ok :=
  ⟨ok.mod, ok.kind, ok.glob, ok.blt, ok.above, ok.inj, ok.has, ok.cab, ok.hd, ok.frames, ok.stk, ok.exf, ok.bs, ok.bsz, ok.noex, ok.exfs, ok.funs, ok.frf⟩
theorem Cx.Ok.unwish {X : Cx} {E : Value → Shared → Prop} (ok : (X.wish E).Ok) : X.Ok :=
  ⟨ok.mod, ok.kind, ok.glob, ok.blt, ok.above, ok.inj, ok.has, ok.cab, ok.hd, ok.frames, ok.stk, ok.exf, ok.bs, ok.bsz, ok.noex, ok.exfs, ok.funs, ok.frf⟩
section
variable {X : Cx} {pins : List (Addr × Obj)} {σ : St} {H : Hp} {s : Shared} {E : Value → Shared → Prop}
theorem Inv.wish (I : Inv X pins σ H s) (E : Value → Shared → Prop) : Inv (X.wish E) pins σ H s := ⟨I.ok.wish E, I.os, I.bare, I.base, I.loc, I.cell, I.free, I.freeC, I.pin, I.hok, I.len⟩
theorem Inv.unwish (I : Inv (X.wish E) pins σ H s) : Inv X pins σ H s := ⟨I.ok.unwish, I.os, I.bare, I.base, I.loc, I.cell, I.free, I.freeC, I.pin, I.hok, I.len⟩
theorem SP.unwish {D : Ends} {f : Flow} {s' : Shared} (h : SP (X.wish E) pins D f s') : SP X pins D f s' := by
  cases f with
  | next => obtain ⟨σ', H', I, q⟩ := h; exact ⟨σ', H', I.unwish, q⟩
  | brk => obtain ⟨σ', H', I, q⟩ := h; exact ⟨σ', H', I.unwish, q⟩
  | cont => obtain ⟨σ', H', I, q⟩ := h; exact ⟨σ', H', I.unwish, q⟩
  | ret u => obtain ⟨v, σ', H', I, r, q⟩ := h; exact ⟨v, σ', H', I.unwish, r, q⟩
theorem PSs.nox {st : List Stmt} {t : TS} (h : PSs X.nox st t) : PSs X st t := fun pins s σ H D I hw =>
  wpAny_mono (h pins s σ H D (I.wish _) hw) (fun _ _ q => q.unwish) fun _ _ z => False.elim z
end

/-! ### blocks and small statements -/
section
variable {X : Cx} {st : Stmt} {rest : List Stmt} {t u : TS} {e : Expr} {te : TE} {pos : Pos}
def tNext : TS := fun D σ H => D.nx σ H
def tSeq (t u : TS) : TS := fun D σ H => t { D with nx := u D } σ H
theorem pss_nil : PSs X [] tNext := fun _ _ σ H _ I h => wpAny_execs_nil ⟨σ, H, I, h⟩
theorem pss_cons (h1 : PS X st t) (h2 : PSs X rest u) : PSs X (st :: rest) (tSeq t u) := by
  intro pins s σ H D I h
  refine wpAny_execs_cons (thn (h1 pins s σ H { D with nx := u D } I h) fun f s1 q => ?_)
  cases f with
  | next =>
    obtain ⟨σ', H', I', q⟩ := q
    exact h2 pins s1 σ' H' D I' q
  | ret v => exact q
  | brk => exact q
  | cont => exact q
theorem pss_one (h1 : PS X st t) : PSs X [st] t := by
  intro pins s σ H D I h
  refine wpAny_execs_cons (thn (h1 pins s σ H D I h) fun f s1 q => ?_)
  cases f with
  | next => exact wpAny_execs_nil q
  | ret v => exact q
  | brk => exact q
  | cont => exact q
/-- in a def's body nothing is shown -/
theorem Inv.quiet {pins : List (Addr × Obj)} {σ : St} {H : Hp} {s : Shared} (I : Inv X pins σ H s) : interactive X.env = false := by simp [interactive, I.ok.kind]
/-- an expression whose value is dropped -/
def tDrop (te : TE) : TS := fun D σ H => te σ H fun _ H1 => D.nx σ H1
theorem ps_expr (he : PE X e te) (hs : swapsWith e none pos.line X.env = pure false := by rfl) : PS X (.Expr e pos) (tDrop te) := by
  intro pins s σ H D I h
  exact wpAny_Expr_any (thn (he pins s σ H _ I h) fun v s1 ⟨x, H1, I1, r1, q1⟩ => ⟨σ, H1, I1, q1⟩) I.quiet hs
def tRet (te : TE) : TS := fun D σ H => te σ H D.rt
theorem ps_ret (he : PE X e te) : PS X (.Return (some e) pos) (tRet te) := by
  intro pins s σ H D I h
  exact wpAny_Return_some (thn (he pins s σ H _ I h) fun v s1 ⟨x, H1, I1, r1, q1⟩ => ⟨x, σ, H1, I1, r1, q1⟩)
def tIfS (c : TT) (t u : TS) : TS := fun D σ H => c σ H fun b H1 => if b = true then t D σ H1 else u D σ H1
theorem ps_if {c : Expr} {a b : List Stmt} {tc : TT} (hc : PT X c tc) (ha : PSs X a t) (hb : PSs X b u) : PS X (.If c a b pos) (tIfS tc t u) := by
  intro pins s σ H D I h
  refine wpAny_If (thn (hc pins s σ H _ I h) fun d s1 ⟨H1, I1, q1⟩ => ?_)
  cases d with
  | true => exact ha pins s1 σ H1 D I1 q1
  | false => exact hb pins s1 σ H1 D I1 q1
/-- code that the proof never comes to -/
def tNever : TS := fun _ _ _ => False
theorem ps_never : PS X st tNever := fun _ _ _ _ _ _ h => h.elim
end

/-! ### targets -/
abbrev TG := V → St → Hp → (St → Hp → Prop) → Prop
abbrev TGs := List V → St → Hp → (St → Hp → Prop) → Prop
def PG (X : Cx) (target : Expr) (t : TG) : Prop :=
  ∀ (pins : List (Addr × Obj)) (s : Shared) (σ : St) (H : Hp) (v : V) (u : Value) (Q : St → Hp → Prop), Inv X pins σ H s → RelV v u → t v σ H Q →
    wpAny (model X.prog X.w) X.A (assign target X.env u) (fun _ s' => ∃ σ' H', Inv X pins σ' H' s' ∧ Q σ' H') X.xe s
/-- several targets, one after another -/
def PGs (X : Cx) (ts : List Expr) (t : TGs) : Prop :=
  ∀ (pins : List (Addr × Obj)) (s : Shared) (σ : St) (H : Hp) (vs : List V) (us : List Value) (Q : St → Hp → Prop), Inv X pins σ H s → Vals vs us → t vs σ H Q →
    wpAny (model X.prog X.w) X.A (assignInOrder ((assignEach ts X.env).map (·.2)) us) (fun _ s' => ∃ σ' H', Inv X pins σ' H' s' ∧ Q σ' H') X.xe s
/-- o[i] = v, by values -/
abbrev TSet := V → V → V → Hp → (Hp → Prop) → Prop
def PSet (X : Cx) (t : TSet) : Prop :=
  ∀ (pins : List (Addr × Obj)) (s : Shared) (σ : St) (H : Hp) (o i v : V) (ov iv u : Value) (Q : Hp → Prop), Inv X pins σ H s → RelV o ov → RelV i iv → RelV v u → t o i v H Q →
    wpAny (model X.prog X.w) X.A (setItem ov iv u) (fun _ s' => ∃ H', Inv X pins σ H' s' ∧ Q H') X.xe s
/-- a op= b, by values -/
abbrev TIp := V → V → Hp → VK → Prop
def PIp (X : Cx) (op : Operator) (t : TIp) : Prop :=
  ∀ (pins : List (Addr × Obj)) (s : Shared) (σ : St) (H : Hp) (x y : V) (v u : Value) (Q : VK), Inv X pins σ H s → RelV x v → RelV y u → t x y H Q →
    wpAny (model X.prog X.w) X.A (inplaceOp op v u) (EP X pins σ Q) X.xe s
section
variable {X : Cx} {pos : Pos}
def gName (i : Nat) : TG := fun v σ H Q => Q (σ.set i (some v)) H
theorem pg_name {i : Nat} {x : Str} (hN : X.N.Nodup) (hi : X.N[i]? = some x) (hx : Loc X.env.scope x) (hf : X.fn x = true ∨ X.env.scope.names.lookup x = some .local := by first | exact .inl rfl | exact .inr rfl | assumption) : PG X (.Name x pos) (gName i) := by
  intro pins s σ H v u Q I r h
  exact wpAny_assign_Name (store_ok I hN hi hx r (fun s' I' => ⟨_, H, I', h⟩) hf)
def gNil : TGs := fun vs σ H Q => vs = [] ∧ Q σ H
def gCons (t : TG) (u : TGs) : TGs := fun vs σ H Q => ∃ v r, vs = v :: r ∧ t v σ H fun σ' H' => u r σ' H' Q
theorem pgs_nil : PGs X [] gNil := by
  intro pins s σ H vs us Q I r h
  obtain ⟨e, h⟩ := h
  subst e
  cases r
  exact assignInOrder_nil ⟨σ, H, I, h⟩
theorem pgs_cons {e : Expr} {es : List Expr} {t : TG} {u : TGs} (h1 : PG X e t) (h2 : PGs X es u)
    (hs : (assignEach (e :: es) X.env).map (·.2) = assign e X.env :: (assignEach es X.env).map (·.2) := by rfl) : PGs X (e :: es) (gCons t u) := by
  intro pins s σ H vs us Q I r h
  obtain ⟨v, vr, e1, h⟩ := h
  subst e1
  cases r with
  | cons r rr =>
    rw [hs]
    refine assignInOrder_cons (thn (h1 pins s σ H _ _ _ I r h) fun _ s1 ⟨σ1, H1, I1, q1⟩ => ?_)
    exact h2 pins s1 σ1 H1 _ _ Q I1 rr q1
/-- (a, b, ..) = a tuple of that length -/
def gTup (K : PySem.W.Frag) (n : Nat) (t : TGs) : TG := fun v σ H Q => ∃ a xs, v = .ref a ∧ SqT K H a xs ∧ xs.length = n ∧ t xs σ H Q
theorem pg_tup {es : List Expr} {k : Nat} {t : TGs} {n : Nat} (hc : X.calm = true) (h : PGs X es t)
    (hn : (assignEach es X.env).length = n := by rfl) (hst : (assignEach es X.env).findIdx? (·.1) = none := by rfl) : PG X (.Tuple es k pos) (gTup X.K n t) := by
  intro pins s σ H v u Q I r hw
  obtain ⟨a, xs, e1, hq, hl, hw⟩ := hw
  subst e1
  cases r
  obtain ⟨its, rv, ht, hz⟩ := I.tuple hq
  refine assign_Tuple_tuple (I.ok.hd hc) ht (by simp [hn, ← hl, rv.length]) hst fun h' hx => ?_
  have I1 : Inv X pins σ H { s with heap := h' } := I.kept (t' := s.toks) fun b o e => hx b o (Nat.ne_of_lt (Heap.lt_size e)) e
  exact h pins _ σ H xs _ Q I1 (by simpa using rv) hw
/-- o[i] = .. -/
def gSub (to ti : TE) (t : TSet) : TG := fun v σ H Q => to σ H fun o H1 => ti σ H1 fun i H2 => t o i v H2 fun H3 => Q σ H3
theorem pg_sub {o i : Expr} {to ti : TE} {t : TSet} (ho : PE X o to) (hi : PE X i ti) (hs : PSet X t)
    (ha : ∀ v, assign (.Subscript o i pos) X.env v = (do
      let ov ← holding [v] (eval o X.env)
      let iv ← holding [v, ov] (eval i X.env)
      standAt pos
      holding [v, ov, iv] (setItem ov iv v)
      release [v, ov, iv] []) := by intro _; rfl) : PG X (.Subscript o i pos) (gSub to ti t) := by
  intro pins s σ H v u Q I r h
  rw [ha]
  refine wpAny_bind (wpAny_holding (thn (ho pins s σ H _ I h) fun ov s1 ⟨x, H1, I1, r1, q1⟩ => ?_))
  refine wpAny_bind (wpAny_holding (thn (hi pins s1 σ H1 _ I1 q1) fun iv s2 ⟨y, H2, I2, r2, q2⟩ => ?_))
  refine wpAny_bind (wpAny_standAt (wpAny_bind (wpAny_holding (thn (hs pins s2 σ H2 x y v ov iv u _ I2 r1 r2 r q2) fun _ s3 ⟨H3, I3, q3⟩ => ?_))))
  exact wpAny_release ⟨σ, H3, I3, q3⟩
/-- target = value -/
def tAsg (te : TE) (g : TG) : TS := fun D σ H => te σ H fun x H1 => g x σ H1 D.nx
theorem ps_asg {tg e : Expr} {te : TE} {g : TG} (he : PE X e te) (hg : PG X tg g) (hs : swapsWithSole [tg] e pos.line X.env = pure false := by rfl) (hw : swappedStores [tg] e X.env = pure none := by rfl)
    (h1 : (assignEach [tg] X.env).map (·.2) = [assign tg X.env] := by rfl) : PS X (.Assign [tg] e pos) (tAsg te g) := by
  intro pins s σ H D I h
  refine wpAny_Assign_stores (thn (he pins s σ H _ I h) fun v s1 ⟨x, H1, I1, r1, q1⟩ => ?_) hs hw
  rw [h1]
  exact thn (hg pins s1 σ H1 x v _ I1 r1 q1) fun _ s2 q => q
/-- name = value -/
theorem ps_set {i : Nat} {x : Str} {e : Expr} {te : TE} {pos' : Pos} (hN : X.N.Nodup) (hi : X.N[i]? = some x) (hx : Loc X.env.scope x) (he : PE X e te) (hs : swapsWith e (some (.Name x pos')) pos.line X.env = pure false := by rfl) (hf : X.fn x = true ∨ X.env.scope.names.lookup x = some .local := by first | exact .inl rfl | exact .inr rfl | assumption) :
    PS X (.Assign [.Name x pos'] e pos) (tAsg te (gName i)) := by
  intro pins s σ H D I h
  refine wpAny_Assign_Name (thn (he pins s σ H _ I h) fun v s1 ⟨y, H1, I1, r1, q1⟩ => ?_) hs
  exact store_ok I1 hN hi hx r1 (fun s2 I2 => ⟨_, H1, I2, q1⟩) hf
/-- name op= e -/
def tAug (i : Nat) (te : TE) (ti : TIp) : TS := fun D σ H => ∃ x, σ[i]? = some (some x) ∧ te σ H fun y H1 => ti x y H1 fun z H2 => D.nx (σ.set i (some z)) H2
theorem ps_aug {i : Nat} {x : Str} {e : Expr} {te : TE} {op : Operator} {ti : TIp} {pos' : Pos} (hN : X.N.Nodup) (hi : X.N[i]? = some x) (hx : Loc X.env.scope x) (he : PE X e te) (ho : PIp X op ti) (hf : X.fn x = true ∨ X.env.scope.names.lookup x = some .local := by first | exact .inl rfl | exact .inr rfl | assumption) :
    PS X (.AugAssign (.Name x pos') op e pos) (tAug i te ti) := by
  intro pins s σ H D I h
  obtain ⟨v, e1, h⟩ := h
  obtain ⟨m, hn, hl⟩ := I.loc
  have vis : Vis X.env.scope x := by rcases hx with k | k; exact .inl k; exact .inr (.inl k)
  obtain ⟨u, r, l⟩ := hl i x v hi e1 vis
  refine wpAny_AugAssign_Name ?_
  have go : wpAny (model X.prog X.w) X.A (eval e X.env) (fun w s₂ => wpAny (model X.prog X.w) X.A (inplaceOp op u w) (fun r s₃ => wpAny (model X.prog X.w) X.A (storeName X.env x r) (fun _ => SP X pins D .next) X.xe s₃) X.xe s₂) X.xe s := by
    refine thn (he pins s σ H _ I h) fun w s1 ⟨y, H1, I1, r1, q1⟩ => ?_
    refine thn (ho pins s1 σ H1 v y u w _ I1 r r1 q1) fun z s2 ⟨zv, H2, I2, r2, q2⟩ => ?_
    exact store_ok I2 hN hi hx r2 (fun s3 I3 => ⟨_, H2, I3, q2⟩) hf
  rcases l with ⟨hk, hm⟩ | ⟨hk, c, hc, hcell⟩
  · exact wpAny_loadName_local I.ok.kind hk hn hm go
  · rcases hk with hk | hk
    · exact wpAny_loadName_cell I.ok.kind hk hc hcell go
    · rcases hx with k | k
      · have : X.env.scope.names.lookup x = some .free := hk
        rw [k] at this; cases this
      · have : X.env.scope.names.lookup x = some .free := hk
        rw [k] at this; cases this
/-- ints -/
def ipI (f : Int → Int → Int) : TIp := fun x y H Q => ∃ i j, x = .int i ∧ y = .int j ∧ Q (.int (f i j)) H
theorem ip_add : PIp X .Add (ipI fun i j => i + j) := by
  intro pins s σ H x y v u Q I r1 r2 h
  obtain ⟨i, j, e1, e2, q⟩ := h
  subst e1; subst e2
  obtain ⟨t, rfl⟩ := r1
  obtain ⟨t', rfl⟩ := r2
  exact iadd_int ⟨.int _, H, I.tok _, ⟨_, rfl⟩, q⟩
end

/-! ### while -/
section
variable {X : Cx} {pos : Pos}
/-- the invariant W with its measure -/
def tWhile (c : TT) (tb : TS) : TS := fun D σ H => ∃ W : Nat → St → Hp → Prop, (∃ m, W m σ H) ∧ ∀ m σ H, W m σ H →
  c σ H fun b H1 => if b = true then ∃ N : St → Hp → Prop, (∀ σ' H', N σ' H' → ∃ m', m' < m ∧ W m' σ' H') ∧ tb { D with nx := N, ct := N, bk := D.nx } σ H1 else D.nx σ H1
theorem ps_while {c : Expr} {body : List Stmt} {tc : TT} {tb : TS} (hp : PassesOwn (model X.prog X.w) X.A X.env X.xe) (hc : PT X c tc) (hb : PSs X body tb) : PS X (.While c body [] pos) (tWhile tc tb) := by
  intro pins s σ H D I h
  obtain ⟨W, ⟨m0, w0⟩, turn⟩ := h
  refine wpAny_While (codeAny_whileLoop (fun n s' => ∃ σ' H', Inv X pins σ' H' s' ∧ W n σ' H') ?_ m0 ⟨σ, H, I, w0⟩)
  rintro n s1 ⟨σ1, H1, I1, w1⟩
  refine wpAny_passesOwn hp (thn (hc pins s1 σ1 H1 _ I1 (turn n σ1 H1 w1)) fun b s2 ⟨H2, I2, q2⟩ => ?_)
  cases b with
  | true =>
    obtain ⟨N, hN, q2⟩ := q2
    rw [if_pos rfl]
    refine wpAny_passesOwn hp (thn (hb pins s2 σ1 H2 _ I2 q2) fun f s3 q3 => ?_)
    cases f with
    | next =>
      obtain ⟨σ3, H3, I3, n3⟩ := q3
      obtain ⟨m', hm, w3⟩ := hN σ3 H3 n3
      exact ⟨m', hm, σ3, H3, I3, w3⟩
    | cont =>
      obtain ⟨σ3, H3, I3, n3⟩ := q3
      obtain ⟨m', hm, w3⟩ := hN σ3 H3 n3
      exact ⟨m', hm, σ3, H3, I3, w3⟩
    | brk => exact q3
    | ret v => exact q3
  | false =>
    rw [if_neg Bool.false_ne_true]
    exact wpAny_execs_nil ⟨σ1, H2, I2, q2⟩
end

/-! ### what a loop or a comprehension walks -/
/-- at turn i: it yields x (the heap may grow), or it stops -/
structure It where
  go : Nat → Hp → Prop
  yld : Nat → Hp → V → Hp → Prop
  stop : Nat → Hp → Prop
/-- the iterator's own objects may turn: they are not the frame's, not pinned, younger than the entry (or a comprehension's own) -/
def FpOk (X : Cx) (pins : List (Addr × Obj)) (H : Hp) (b : Addr) : Prop :=
  H b = none ∧ b ≠ X.env.locals ∧ b ∉ X.fs ∧ (b ∈ X.ex ∨ X.s_0.heap.objs.size ≤ b) ∧ (∀ x c, X.env.cells.lookup x = some c → c ≠ b) ∧ ∀ p ∈ X.pn ++ pins, p.1 ≠ b
theorem Inv.fpOk {X : Cx} {pins : List (Addr × Obj)} {σ : St} {H H' : Hp} {s : Shared} {b : Addr} (I : Inv X pins σ H s) (hb : s.heap.objs.size ≤ b) (hn : H' b = none) : FpOk X pins H' b := by
  refine ⟨hn, Nat.ne_of_gt (Nat.lt_of_lt_of_le I.lt hb), I.nofs hb, .inr (Nat.le_trans I.sz hb), fun x c e z => ?_, fun p hp z => ?_⟩
  · obtain ⟨v, q⟩ := I.cell x c e
    exact absurd (Nat.lt_of_lt_of_le q.lt (by rw [z]; exact hb)) (Nat.lt_irrefl _)
  · exact absurd (Nat.lt_of_lt_of_le (Heap.lt_size (I.pin p hp).1) (by rw [z]; exact hb)) (Nat.lt_irrefl _)
structure Turn (P : Program) (w : World) (K : PySem.W.Frag) (tg : Expr) (J : It) (fp : List Addr) (it : Addr) (tn : Nat → Heap → Prop) : Prop where
  mem : it ∈ fp
  obj : ∀ i h, tn i h → ∀ b ∈ fp, ∃ o, h.get? b = some o ∧ ∀ v, o.data ≠ .cell v
  keep : ∀ i h h', tn i h → (∀ b ∈ fp, ∀ o, h.get? b = some o → h'.get? b = some o) → tn i h'
  item : ∀ (X : Cx), X.prog = P → X.w = w → X.K = K → X.calm = true → ∀ (i : Nat) (pins : List (Addr × Obj)) (s : Shared) (σ : St) (H : Hp) (E : Value → Shared → Prop), Inv X pins σ H s → (∀ b ∈ fp, FpOk X pins H b) → tn i s.heap → J.go i H →
    wpAny (model P w) X.A (pyNext (.ref it)) (fun r s1 => ∃ u, r = some u ∧
      wpAny (model P w) X.A (letOwnedTupleGo tg (.ref it) u) (fun _ s2 => ∃ x H', Inv X pins σ H' s2 ∧ RelV x u ∧ J.yld i H x H' ∧ tn (i + 1) s2.heap ∧ ∀ b ∈ fp, H' b = none) E s1) E s
  done : ∀ (X : Cx), X.prog = P → X.w = w → X.K = K → X.calm = true → ∀ (i : Nat) (pins : List (Addr × Obj)) (s : Shared) (σ : St) (H : Hp) (E : Value → Shared → Prop), Inv X pins σ H s → (∀ b ∈ fp, FpOk X pins H b) → tn i s.heap → J.stop i H →
    wpAny (model P w) X.A (pyNext (.ref it)) (fun r s1 => r = none ∧ Inv X pins σ H s1) E s
  self : ∀ (A : Around) (i : Nat) (s : Shared) (Q : Value → Shared → Prop) (E : Value → Shared → Prop), tn i s.heap → Q (.ref it) s → wpAny (model P w) A (pyIter (.ref it)) Q E s
abbrev TI := St → Hp → (It → Hp → Prop) → Prop
/-- an iterator has come -/
def PIE (X : Cx) (pins : List (Addr × Obj)) (σ : St) (tg : Expr) (R : It → Hp → Prop) (itv : Value) (s2 : Shared) : Prop :=
  ∃ (it : Addr) (fp : List Addr) (tn : Nat → Heap → Prop) (J : It) (H' : Hp), itv = .ref it ∧ Inv X pins σ H' s2 ∧ Turn X.prog X.w X.K tg J fp it tn ∧ tn 0 s2.heap ∧ (∀ b ∈ fp, FpOk X pins H' b) ∧ R J H'
def PI (X : Cx) (tg iter : Expr) (wi : TI) : Prop :=
  ∀ (pins : List (Addr × Obj)) (s : Shared) (σ : St) (H : Hp) (R : It → Hp → Prop), Inv X pins σ H s → wi σ H R →
    wpAny (model X.prog X.w) X.A (eval iter X.env) (fun v s1 => wpAny (model X.prog X.w) X.A (pyIter v) (PIE X pins σ tg R) X.xe s1) X.xe s

/-- the step ahead of the store is nothing for an iterator that keeps no tuple -/
theorem go_of {M : Model} {A : Around} {E : Value → Shared → Prop} {s : Shared} {tg : Expr} {it : Addr} {u : Value} {o : Obj} {n : String} {vs : Array Value} {Q : Unit → Shared → Prop} (ho : s.heap.get? it = some o) (hc : o.cls = .type n) (hd : o.data = .fields vs)
    (hn : ["enumerate", "zip", "dict_itemiterator", "dict_reverseitemiterator", "odict_iterator", "itertools.zip_longest", "itertools.pairwise"].contains n = false) (hQ : Q () s) : wpAny M A (letOwnedTupleGo tg (.ref it) u) Q E s := by
  unfold letOwnedTupleGo
  cases tg <;> first
    | exact wpAny_pure hQ
    | (cases u <;> first
        | exact wpAny_pure hQ
        | (refine wpAny_bind (wpAny_load ho ?_)
           rw [hc, hd]
           show wpAny M A (if (["enumerate", "zip", "dict_itemiterator", "dict_reverseitemiterator", "odict_iterator", "itertools.zip_longest", "itertools.pairwise"].contains n && vs[0]? == some (rawInt _)) = true then _ else _) Q E s
           rw [if_neg (by intro h; rw [hn, Bool.false_and] at h; cases h)]
           exact wpAny_pure hQ))

/-- the list at a, as it stands at each turn (a loop may append to it) -/
def Itl (K : PySem.W.Frag) (a : Addr) : It :=
  ⟨fun i H => ∃ xs x, SqL K H a xs ∧ xs[i]? = some x, fun i H x H' => H' = H ∧ ∀ xs, SqL K H a xs → xs[i]? = some x, fun i H => ∃ xs, SqL K H a xs ∧ xs.length ≤ i⟩
/-- lo, lo + 1, .. (n of them) -/
def Itr (lo : Int) (n : Nat) : It := ⟨fun i _ => i < n, fun i H x H' => H' = H ∧ x = .int (lo + i), fun i _ => n ≤ i⟩
theorem turn_list {P : Program} {w : World} {K : PySem.W.Frag} {tg : Expr} (a it : Addr) : Turn P w K tg (Itl K a) [it] it (fun i h => h.IsListIter it a i) where
  mem := by simp
  obj := fun i h st b hb => by
    have e : b = it := by simpa using hb
    subst e
    obtain ⟨o, e, c, d⟩ := st
    exact ⟨o, e, fun v z => by rw [d] at z; cases z⟩
  keep := fun i h h' st k => st.at fun o e => k it (by simp) o e
  item := by
    intro X hP hw hK hc i pins s σ H E I hf st hg
    subst hP hw hK
    obtain ⟨xs, x, hq, hx⟩ := hg
    obtain ⟨its, rv, p, hz⟩ := I.list hq
    obtain ⟨u, hu, ru⟩ := rv.get hx
    obtain ⟨f0, f1, f2, f3, f4, f5⟩ := hf it (by simp)
    refine wpAny_pyNext_list_item st p.isList (x := u) (by simpa using hu) fun h' st' sb => ?_
    have I1 : Inv X pins σ H { s with heap := h' } := I.turned (t' := s.toks) (fun b o hb e => (sb.2 b hb).trans e) f0 f1 f3 f4 f5
    obtain ⟨o, e, c, d⟩ := id st'
    exact ⟨u, rfl, go_of (s := { s with heap := h' }) e c d (by decide) ⟨x, H, I1, ru, ⟨rfl, fun ys hy => by rw [I.list_inj hy hq]; exact hx⟩, st', fun b hb => (hf b hb).1⟩⟩
  done := by
    intro X hP hw hK hc i pins s σ H E I hf st hg
    subst hP hw hK
    obtain ⟨xs, hq, hx⟩ := hg
    obtain ⟨its, rv, p, hz⟩ := I.list hq
    obtain ⟨f0, f1, f2, f3, f4, f5⟩ := hf it (by simp)
    have hl := rv.length
    exact wpAny_pyNext_list_end (I.ok.hd hc) st p.isList (by simp; omega) fun h' eb => ⟨rfl, I.turned (t' := s.toks) (fun b o hb e => eb b o hb e) f0 f1 f3 f4 f5⟩
  self := fun _ _ _ _ _ st h => wpAny_pyIter_listiter st h
theorem turn_range {P : Program} {w : World} {K : PySem.W.Frag} {tg : Expr} (it : Addr) (lo : Int) (n : Nat) : Turn P w K tg (Itr lo n) [it] it (fun i h => IsRangeIter h it (lo + (i : Nat) * 1) ((n : Int) - (i : Nat)) 1) where
  mem := by simp
  obj := fun i h st b hb => by
    have e : b = it := by simpa using hb
    subst e
    exact ⟨_, st, fun v z => by
      have z' : Data.fields _ = Data.cell v := z
      cases z'⟩
  keep := fun i h h' st k => k it (by simp) _ st
  item := by
    intro X hP hw hK hc i pins s σ H E I hf st hg
    subst hP hw hK
    obtain ⟨f0, f1, f2, f3, f4, f5⟩ := hf it (by simp)
    have W := Walks.range (prog := X.prog) (w := X.w) (I.ok.hd hc) it lo 1 n
    refine W.item i s _ _ hg st fun v h' tk hv st' kk => ?_
    obtain ⟨t, rfl⟩ := hv
    have I1 : Inv X pins σ H { s with heap := h', toks := tk } := I.turned (fun b o hb e => kk b o (by simpa using hb) e) f0 f1 f3 f4 f5
    refine ⟨_, rfl, go_of (s := { s with heap := h', toks := tk }) (n := "range_iterator") st' rfl rfl (by decide) ⟨.int (lo + i), H, I1, ⟨t, ?_⟩, ⟨rfl, rfl⟩, st', fun b hb => (hf b hb).1⟩⟩
    rw [Int.mul_one]
  done := by
    intro X hP hw hK hc i pins s σ H E I hf st hg
    subst hP hw hK
    obtain ⟨f0, f1, f2, f3, f4, f5⟩ := hf it (by simp)
    exact wpAny_pyNext_range_end (I.ok.hd hc) st (by have : n ≤ i := hg; omega) fun h' eb => ⟨rfl, I.turned (t' := s.toks) (fun b o hb e => eb b o hb e) f0 f1 f3 f4 f5⟩
  self := fun _ _ _ _ _ st h => wpAny_pyIter_rangeiter st h
end L2

namespace L2
open PySem PySem.Spec PyProof.Rows
section
variable {X : Cx} {tg : Expr}
def iList (K : PySem.W.Frag) (tl : TE) : TI := fun σ H R => tl σ H fun x H1 => ∃ a, x = .ref a ∧ (∃ xs, SqL K H1 a xs) ∧ R (Itl K a) H1
theorem pi_list {l : Expr} {tl : TE} (hl : PE X l tl) : PI X tg l (iList X.K tl) := by
  intro pins s σ H R I h
  refine thn (hl pins s σ H _ I h) fun v s1 ⟨x, H1, I1, r1, q1⟩ => ?_
  obtain ⟨a, e, ⟨xs, hq⟩, q⟩ := q1
  subst e
  cases r1
  obtain ⟨its, rv, p, hz⟩ := I1.list hq
  refine wpAny_pyIter_list p.isList ?_
  refine ⟨s1.heap.objs.size, [s1.heap.objs.size], _, _, H1, rfl, I1.kept (t' := s1.toks) fun b o e => Heap.get?_push_of_some _ e, turn_list a _, ⟨_, Heap.get?_push_size _ rfl, rfl, rfl⟩, fun b hb => ?_, q⟩
  have e : b = s1.heap.objs.size := by simpa using hb
  subst e
  exact I1.fpOk (Nat.le_refl _) (I1.hok.fresh (Nat.le_refl _))
/-- a range object just made, walked -/
theorem range_it {pins : List (Addr × Obj)} {σ : St} {H : Hp} {s : Shared} {R : It → Hp → Prop} {E : Value → Shared → Prop} {lo hi : Int} {t u v : Tok} {tk : Nat} (I : Inv X pins σ H s) (h1 : -(2 ^ 62) ≤ lo) (h2 : lo < 2 ^ 62) (h3 : -(2 ^ 62) ≤ hi) (h4 : hi < 2 ^ 62)
    (q : R (Itr lo (hi - lo).toNat) H) : wpAny (model X.prog X.w) X.A (pyIter (.ref s.heap.objs.size)) (PIE X pins σ tg R) E { s with heap := s.heap.push { cls := .type "range", data := .fields #[.int lo t, .int hi u, .int 1 v] }, toks := tk } := by
  refine wpAny_pyIter_range (IsRange.new ..) (small_one h1 h2 h3 h4) ?_
  have I1 : Inv X pins σ H { s with heap := s.heap.push { cls := .type "range", data := .fields #[.int lo t, .int hi u, .int 1 v] }, toks := tk } := I.kept fun b o e => Heap.get?_push_of_some _ e
  refine ⟨(s.heap.push { cls := .type "range", data := .fields #[.int lo t, .int hi u, .int 1 v] }).objs.size, [(s.heap.push { cls := .type "range", data := .fields #[.int lo t, .int hi u, .int 1 v] }).objs.size], _, _, H, rfl,
    I1.kept (t' := tk) fun b o e => Heap.get?_push_of_some _ e, turn_range _ lo (hi - lo).toNat, ?_, fun b hb => ?_, q⟩
  · have e1 : lo + ((0 : Nat) : Int) * 1 = lo := by simp
    have e2 : (((hi - lo).toNat : Nat) : Int) - ((0 : Nat) : Int) = Builtin.Range.rangeSize lo hi 1 := by rw [rangeSize_one]; split <;> omega
    show IsRangeIter _ _ (lo + ((0 : Nat) : Int) * 1) ((((hi - lo).toNat : Nat) : Int) - ((0 : Nat) : Int)) 1
    rw [e1, e2]
    exact Heap.get?_push_size _ rfl
  · have e : b = (s.heap.push { cls := .type "range", data := .fields #[.int lo t, .int hi u, .int 1 v] }).objs.size := by simpa using hb
    subst e
    exact I1.fpOk (Nat.le_refl _) (I1.hok.fresh (Nat.le_refl _))
def iRng1 (ta : TA) : TI := fun σ H R => ta σ H fun vs H1 => ∃ j : Int, vs = [.int j] ∧ -(2 ^ 62) ≤ j ∧ j < 2 ^ 62 ∧ R (Itr 0 j.toNat) H1
def iRng2 (ta : TA) : TI := fun σ H R => ta σ H fun vs H1 => ∃ i j : Int, vs = [.int i, .int j] ∧ (-(2 ^ 62) ≤ i ∧ i < 2 ^ 62 ∧ -(2 ^ 62) ≤ j ∧ j < 2 ^ 62) ∧ R (Itr i (j - i).toNat) H1
theorem pi_range1 {a : Expr} {ta : TA} {p pos : Pos} (hg : Gl X "range") (hm : X.mg "range" = none) (ha : PA X [a] ta) (hs : starEach [a] X.env = [(false, eval a X.env)] := by rfl) : PI X tg (.Call (.Name "range" p) [a] [] pos) (iRng1 ta) := by
  intro pins s σ H R I h
  refine Call_ (ld_blt I hg hm boot_range (PyProof.Rows.callWith_type1 (thn (ha pos pins s σ H _ I h) fun us s1 ⟨vs, H1, I1, r1, q1⟩ => ?_) hs rfl))
  obtain ⟨j, e, q1, q2, q⟩ := q1
  subst e
  cases r1 with
  | cons r rr =>
    cases rr
    obtain ⟨t, rfl⟩ := r
    exact call_range_1 (range_it I1 (by omega) (by omega) q1 q2 (by simpa using q))
theorem pi_range2 {a b : Expr} {ta : TA} {p pos : Pos} (hg : Gl X "range") (hm : X.mg "range" = none) (ha : PA X [a, b] ta) (hs : starEach [a, b] X.env = [(false, eval a X.env), (false, eval b X.env)] := by rfl) (hs2 : starEach [b] X.env = [(false, eval b X.env)] := by rfl) :
    PI X tg (.Call (.Name "range" p) [a, b] [] pos) (iRng2 ta) := by
  intro pins s σ H R I h
  refine Call_ (ld_blt I hg hm boot_range (PyProof.Rows.callWith_type1 (thn (ha pos pins s σ H _ I h) fun us s1 ⟨vs, H1, I1, r1, q1⟩ => ?_) (by rw [hs, hs2]) (by rw [hs2]; rfl)))
  obtain ⟨i, j, e, ⟨q1, q2, q3, q4⟩, q⟩ := q1
  subst e
  cases r1 with
  | cons r rr =>
    cases rr with
    | cons r' rr =>
      cases rr
      obtain ⟨t, rfl⟩ := r
      obtain ⟨t', rfl⟩ := r'
      exact call_range_2 (range_it I1 q1 q2 q3 q4 q)

/-! ### for -/
/-- W: the invariant by the turn and a measure; N: what the body is to reach -/
def tFor (wi : TI) (g : TG) (tb : TS) : TS := fun D σ H => wi σ H fun J H1 => ∃ W : Nat → Nat → St → Hp → Prop, (∃ m, W 0 m σ H1) ∧ ∀ i m σ H, W i m σ H →
  (J.stop i H ∧ D.nx σ H) ∨ (J.go i H ∧ ∃ N : St → Hp → Prop, (∀ σ' H', N σ' H' → ∃ m', m' < m ∧ W (i + 1) m' σ' H') ∧ ∀ x H', J.yld i H x H' → g x σ H' fun σ2 H2 => tb { D with nx := N, ct := N, bk := D.nx } σ2 H2)
/-- the records at fp as they stand -/
def pinsAt (fp : List Addr) (h : Heap) : List (Addr × Obj) := fp.filterMap fun b => (h.get? b).map fun o => (b, o)
theorem mem_pinsAt {fp : List Addr} {h : Heap} {b : Addr} {o : Obj} (hb : b ∈ fp) (e : h.get? b = some o) : (b, o) ∈ pinsAt fp h := List.mem_filterMap.mpr ⟨b, hb, by rw [e]; rfl⟩
theorem of_pinsAt {fp : List Addr} {h : Heap} {p : Addr × Obj} (hp : p ∈ pinsAt fp h) : p.1 ∈ fp ∧ h.get? p.1 = some p.2 := by
  obtain ⟨b, hb, e⟩ := List.mem_filterMap.mp hp
  cases q : h.get? b with
  | none => rw [q] at e; cases e
  | some o =>
    rw [q] at e
    have e' : (b, o) = p := Option.some.inj e
    subst e'
    exact ⟨hb, q⟩
theorem Inv.pinned {pins : List (Addr × Obj)} {σ : St} {H : Hp} {s : Shared} {fp : List Addr} (I : Inv X pins σ H s) (hf : ∀ b ∈ fp, FpOk X pins H b) (ho : ∀ b ∈ fp, ∃ o, s.heap.get? b = some o ∧ ∀ v, o.data ≠ .cell v) : Inv X (pins ++ pinsAt fp s.heap) σ H s :=
  I.pins_of fun p hp => (List.mem_append.mp hp).elim (fun z => I.pin p (List.mem_append_right _ z)) fun z => by
    obtain ⟨hb, e⟩ := of_pinsAt z
    obtain ⟨f0, f1, f2, _⟩ := hf p.1 hb
    obtain ⟨o, e', d⟩ := ho p.1 hb
    rw [e] at e'; cases e'
    exact ⟨e, f0, f1, f2, d⟩
theorem Inv.unpinned {pins pl : List (Addr × Obj)} {σ : St} {H : Hp} {s : Shared} (I : Inv X (pins ++ pl) σ H s) : Inv X pins σ H s := I.pins_of fun p hp => I.pin p (List.mem_append_right _ (List.mem_append_left _ hp))
theorem ps_for {iter : Expr} {body : List Stmt} {wi : TI} {g : TG} {tb : TS} {pos : Pos} (hp : PassesOwn (model X.prog X.w) X.A X.env X.xe) (hc : X.calm = true) (hi : PI X tg iter wi) (hg : PG X tg g) (hb : PSs X body tb)
    (hs : ∀ x, foldedSetIterable iter X.env x = pure x := by intro _; rfl) : PS X (.For tg iter body [] pos) (tFor wi g tb) := by
  intro pins s σ H D I h
  refine wpAny_For (thn (hi pins s σ H _ I h) fun v s1 h1 => thn h1 fun itv s2 h2 => ?_) hs
  obtain ⟨it, fp, tn, J, H2, e, I2, T, st2, f2, W, ⟨m0, w0⟩, turn⟩ := h2
  subst e
  -- what stays true of the iterator's objects through the loop
  have stat : ∀ {H' : Hp}, (∀ b ∈ fp, H' b = none) → ∀ b ∈ fp, FpOk X pins H' b := fun hn b hb => ⟨hn b hb, (f2 b hb).2⟩
  refine codeAny_forLoop_any (fun n s' => ∃ i σ' H', Inv X pins σ' H' s' ∧ tn i s'.heap ∧ (∀ b ∈ fp, H' b = none) ∧ W i n σ' H') ?_ m0 ⟨0, σ, H2, I2, st2, fun b hb => (f2 b hb).1, w0⟩
  rintro n s3 ⟨i, σ3, H3, I3, st3, fr3, w3⟩
  rcases turn i n σ3 H3 w3 with ⟨stop, qn⟩ | ⟨go, N, hN, step⟩
  · refine wpAny_passesOwn hp (thn (T.done X rfl rfl rfl hc i pins s3 σ3 H3 X.xe I3 (stat fr3) st3 stop) fun r s4 ⟨hr, I4⟩ => ?_)
    subst hr
    exact wpAny_execs_nil ⟨σ3, H3, I4, qn⟩
  · refine wpAny_passesOwn hp (thn (T.item X rfl rfl rfl hc i pins s3 σ3 H3 X.xe I3 (stat fr3) st3 go) fun r s4 ⟨u, hr, h4⟩ => ?_)
    subst hr
    refine wpAny_passesOwn hp (thn h4 fun _ s5 ⟨x, H5, I5, r5, y5, st5, fr5⟩ => ?_)
    have I5' := I5.pinned (stat fr5) (T.obj _ _ st5)
    refine wpAny_passesOwn hp (thn (hg _ s5 σ3 H5 x u _ I5' r5 (step x H5 y5)) fun _ s6 ⟨σ6, H6, I6, q6⟩ => ?_)
    refine wpAny_passesOwn hp (thn (hb _ s6 σ6 H6 _ I6 q6) fun f s7 q7 => ?_)
    have again : ∀ {σ7 : St} {H7 : Hp}, Inv X (pins ++ pinsAt fp s5.heap) σ7 H7 s7 → N σ7 H7 → ∃ m, m < n ∧ ∃ i σ' H', Inv X pins σ' H' s7 ∧ tn i s7.heap ∧ (∀ b ∈ fp, H' b = none) ∧ W i m σ' H' := fun {σ7 H7} I7 n7 => by
      obtain ⟨m', hm, w7⟩ := hN σ7 H7 n7
      refine ⟨m', hm, i + 1, σ7, H7, I7.unpinned, T.keep _ _ _ st5 fun b hb o e => (I7.pin (b, o) (List.mem_append_right _ (List.mem_append_right _ (mem_pinsAt hb e)))).1, fun b hb => ?_, w7⟩
      obtain ⟨o, e, d⟩ := T.obj _ _ st5 b hb
      exact (I7.pin (b, o) (List.mem_append_right _ (List.mem_append_right _ (mem_pinsAt hb e)))).2.1
    cases f with
    | next => obtain ⟨σ7, H7, I7, n7⟩ := q7; exact again I7 n7
    | cont => obtain ⟨σ7, H7, I7, n7⟩ := q7; exact again I7 n7
    | brk => obtain ⟨σ7, H7, I7, q7⟩ := q7; exact ⟨σ7, H7, I7.unpinned, q7⟩
    | ret v => obtain ⟨x7, σ7, H7, I7, r7, q7⟩ := q7; exact ⟨x7, σ7, H7, I7.unpinned, r7, q7⟩
end

/-! ### the forms one uses -/
/-- over a list that the body leaves as it is -/
theorem for_list {K : PySem.W.Frag} {a : Addr} {xs : List V} {g : TG} {tb : TS} {D : Ends} {σ : St} {H : Hp} (Pv : Nat → St → Hp → Prop) (h0 : Pv 0 σ H) (hl : ∀ i σ H, i ≤ xs.length → Pv i σ H → SqL K H a xs)
    (hs : ∀ i x σ H, xs[i]? = some x → Pv i σ H → g x σ H fun σ2 H2 => tb { D with nx := Pv (i + 1), ct := Pv (i + 1), bk := D.nx } σ2 H2) (hd : ∀ σ H, Pv xs.length σ H → D.nx σ H) :
    ∃ W : Nat → Nat → St → Hp → Prop, (∃ m, W 0 m σ H) ∧ ∀ i m σ H, W i m σ H →
      ((Itl K a).stop i H ∧ D.nx σ H) ∨ ((Itl K a).go i H ∧ ∃ N : St → Hp → Prop, (∀ σ' H', N σ' H' → ∃ m', m' < m ∧ W (i + 1) m' σ' H') ∧ ∀ x H', (Itl K a).yld i H x H' → g x σ H' fun σ2 H2 => tb { D with nx := N, ct := N, bk := D.nx } σ2 H2) := by
  refine ⟨fun i m σ H => m = xs.length - i ∧ i ≤ xs.length ∧ Pv i σ H, ⟨xs.length, by simp, Nat.zero_le _, h0⟩, ?_⟩
  rintro i m σ H ⟨rfl, hi, p⟩
  have q := hl i σ H hi p
  by_cases hlt : i < xs.length
  · refine .inr ⟨⟨xs, xs[i], q, by simp [hlt]⟩, Pv (i + 1), fun σ' H' p' => ⟨xs.length - (i + 1), by omega, rfl, hlt, p'⟩, fun x H' y => ?_⟩
    obtain ⟨e, y⟩ := y
    subst e
    exact hs i x σ _ (y xs q) p
  · have e : i = xs.length := by omega
    subst e
    exact .inl ⟨⟨xs, q, Nat.le_refl _⟩, hd σ H p⟩
theorem for_range {lo : Int} {n : Nat} {g : TG} {tb : TS} {D : Ends} {σ : St} {H : Hp} (Pv : Nat → St → Hp → Prop) (h0 : Pv 0 σ H)
    (hs : ∀ i σ H, i < n → Pv i σ H → g (.int (lo + i)) σ H fun σ2 H2 => tb { D with nx := Pv (i + 1), ct := Pv (i + 1), bk := D.nx } σ2 H2) (hd : ∀ σ H, Pv n σ H → D.nx σ H) :
    ∃ W : Nat → Nat → St → Hp → Prop, (∃ m, W 0 m σ H) ∧ ∀ i m σ H, W i m σ H →
      ((Itr lo n).stop i H ∧ D.nx σ H) ∨ ((Itr lo n).go i H ∧ ∃ N : St → Hp → Prop, (∀ σ' H', N σ' H' → ∃ m', m' < m ∧ W (i + 1) m' σ' H') ∧ ∀ x H', (Itr lo n).yld i H x H' → g x σ H' fun σ2 H2 => tb { D with nx := N, ct := N, bk := D.nx } σ2 H2) := by
  refine ⟨fun i m σ H => m = n - i ∧ i ≤ n ∧ Pv i σ H, ⟨n, by simp, Nat.zero_le _, h0⟩, ?_⟩
  rintro i m σ H ⟨rfl, hi, p⟩
  by_cases hlt : i < n
  · refine .inr ⟨hlt, Pv (i + 1), fun σ' H' p' => ⟨n - (i + 1), by omega, rfl, hlt, p'⟩, fun x H' y => ?_⟩
    obtain ⟨e, y⟩ := y
    subst e y
    exact hs i σ _ hlt p
  · have e : i = n := by omega
    subst e
    exact .inl ⟨Nat.le_refl _, hd σ H p⟩
end L2

namespace L2
open PySem PySem.Spec PyProof.Rows

abbrev R2 := V → V → Hp → VK → Prop
/-- a two-place operation on values: f is binaryOp op, inplaceOp op or compareOp op -/
def OpR (X : Cx) (f : Value → Value → Sem Value) (r : R2) : Prop :=
  ∀ (pins : List (Addr × Obj)) (s : Shared) (σ : St) (H : Hp) (x y : V) (v u : Value) (Q : VK), Inv X pins σ H s → RelV x v → RelV y u → r x y H Q →
    wpAny (model X.prog X.w) X.A (f v u) (EP X pins σ Q) X.xe s
/-- a one-place operation -/
def UnR (X : Cx) (f : Value → Sem Value) (r : V → Hp → VK → Prop) : Prop :=
  ∀ (pins : List (Addr × Obj)) (s : Shared) (σ : St) (H : Hp) (x : V) (v : Value) (Q : VK), Inv X pins σ H s → RelV x v → r x H Q →
    wpAny (model X.prog X.w) X.A (f v) (EP X pins σ Q) X.xe s
/-- a call of a value that is known (a builtin, a type) with values -/
def CallR (X : Cx) (f : Value) (r : List V → Hp → VK → Prop) : Prop :=
  ∀ (pins : List (Addr × Obj)) (s : Shared) (σ : St) (H : Hp) (xs : List V) (us : List Value) (Q : VK), Inv X pins σ H s → Vals xs us → r xs H Q →
    wpAny (model X.prog X.w) X.A (call f us) (EP X pins σ Q) X.xe s
/-- a value's truth -/
def TruR (X : Cx) (r : V → Hp → (Bool → Hp → Prop) → Prop) : Prop :=
  ∀ (pins : List (Addr × Obj)) (s : Shared) (σ : St) (H : Hp) (x : V) (v : Value) (Q : Bool → Hp → Prop), Inv X pins σ H s → RelV x v → r x H Q →
    wpAny (model X.prog X.w) X.A (truthy v) (TP X pins σ Q) X.xe s

def tOp (r : R2) (ta tb : TE) : TE := fun σ H Q => ta σ H fun x H1 => tb σ H1 fun y H2 => r x y H2 Q
def tUn (r : V → Hp → VK → Prop) (ta : TE) : TE := fun σ H Q => ta σ H fun x H1 => r x H1 Q
/-- ints in, under C, and a value out -/
def rI (C : Int → Int → Prop) (g : Int → Int → V) : R2 := fun x y H Q => ∃ i j, x = .int i ∧ y = .int j ∧ C i j ∧ Q (g i j) H
def rI0 (g : Int → Int → V) : R2 := fun x y H Q => ∃ i j, x = .int i ∧ y = .int j ∧ Q (g i j) H
def rU (g : Int → V) : V → Hp → VK → Prop := fun x H Q => ∃ i, x = .int i ∧ Q (g i) H

section
variable {X : Cx} {a b c : Expr} {ta tb tc : TE} {pos : Pos}

theorem binT (ha : PE X a ta) (hb : PE X b tb) {pins : List (Addr × Obj)} {s : Shared} {σ : St} {H : Hp} {R : V → V → Hp → Prop} (I : Inv X pins σ H s)
    (h : ta σ H fun x H1 => tb σ H1 fun y H2 => R x y H2) {Q : Value → Shared → Prop} {f : Value → Value → Sem Value}
    (hf : ∀ v u s2 x y H2, Inv X pins σ H2 s2 → RelV x v → RelV y u → R x y H2 → wpAny (model X.prog X.w) X.A (f v u) Q X.xe s2) :
    wpAny (model X.prog X.w) X.A (eval a X.env) (fun v s₁ => wpAny (model X.prog X.w) X.A (eval b X.env) (fun u s₂ => wpAny (model X.prog X.w) X.A (f v u) Q X.xe s₂) X.xe s₁) X.xe s := by
  refine thn (ha pins s σ H _ I h) fun v s1 ⟨x, H1, I1, r1, q1⟩ => ?_
  refine thn (hb pins s1 σ H1 _ I1 q1) fun u s2 ⟨y, H2, I2, r2, q2⟩ => ?_
  exact hf v u s2 x y H2 I2 r1 r2 q2

theorem pe_op {op : Operator} {r : R2} (ho : OpR X (binaryOp op) r) (ha : PE X a ta) (hb : PE X b tb) : PE X (.BinOp a op b pos) (tOp r ta tb) := by
  intro pins s σ H Q I h
  exact wpAny_BinOp (binT ha hb I h fun v u s2 x y H2 I2 rx ry q => ho pins s2 σ H2 x y v u Q I2 rx ry q)
theorem pe_un {op : UnaryOp} {r : V → Hp → VK → Prop} (ho : UnR X (unaryOp op) r) (ha : PE X a ta) : PE X (.UnaryOp op a pos) (tUn r ta) := by
  intro pins s σ H Q I h
  exact UnaryOp_ (thn (ha pins s σ H _ I h) fun v s1 ⟨x, H1, I1, r1, q1⟩ => ho pins s1 σ H1 x v Q I1 r1 q1)

/-! ### ints -/
theorem opI {f : Value → Value → Sem Value} {C : Int → Int → Prop} {g : Int → Int → Int}
    (rule : ∀ (i j : Int) (t u : Tok) (s : Shared) (Q : Value → Shared → Prop) (E : Value → Shared → Prop), C i j → Q (.int (g i j) s.toks) { s with toks := s.toks + 1 } → wpAny (model X.prog X.w) X.A (f (.int i t) (.int j u)) Q E s) :
    OpR X f (rI C fun i j => .int (g i j)) := by
  intro pins s σ H x y v u Q I rx ry h
  obtain ⟨i, j, rfl, rfl, hc, q⟩ := h
  obtain ⟨t, rfl⟩ := rx
  obtain ⟨t', rfl⟩ := ry
  exact rule i j t t' s _ _ hc ⟨.int (g i j), H, I.tok _, ⟨_, rfl⟩, q⟩
theorem opI0 {f : Value → Value → Sem Value} {g : Int → Int → Int}
    (rule : ∀ (i j : Int) (t u : Tok) (s : Shared) (Q : Value → Shared → Prop) (E : Value → Shared → Prop), Q (.int (g i j) s.toks) { s with toks := s.toks + 1 } → wpAny (model X.prog X.w) X.A (f (.int i t) (.int j u)) Q E s) :
    OpR X f (rI0 fun i j => .int (g i j)) := by
  intro pins s σ H x y v u Q I rx ry h
  obtain ⟨i, j, rfl, rfl, q⟩ := h
  obtain ⟨t, rfl⟩ := rx
  obtain ⟨t', rfl⟩ := ry
  exact rule i j t t' s _ _ ⟨.int (g i j), H, I.tok _, ⟨_, rfl⟩, q⟩
theorem opB0 {f : Value → Value → Sem Value} {g : Int → Int → Bool}
    (rule : ∀ (i j : Int) (t u : Tok) (s : Shared) (Q : Value → Shared → Prop) (E : Value → Shared → Prop), Q (.bool (g i j)) s → wpAny (model X.prog X.w) X.A (f (.int i t) (.int j u)) Q E s) :
    OpR X f (rI0 fun i j => .bl (g i j)) := by
  intro pins s σ H x y v u Q I rx ry h
  obtain ⟨i, j, rfl, rfl, q⟩ := h
  obtain ⟨t, rfl⟩ := rx
  obtain ⟨t', rfl⟩ := ry
  exact rule i j t t' s _ _ ⟨.bl (g i j), H, I, rfl, q⟩

def CDiv (i j : Int) : Prop := 0 < j ∧ j < 1073741824
def CMul (i j : Int) : Prop := (-(2 ^ 64) < i ∧ i < 2 ^ 64) ∨ (-(2 ^ 64) < j ∧ j < 2 ^ 64)
theorem CMul.ok {i j : Int} (h : CMul i j) : IntMulOk i j := by
  rcases h with ⟨h1, h2⟩ | ⟨h1, h2⟩
  · exact .of_left (intBits_le_64 h1 h2)
  · exact .of_right (intBits_le_64 h1 h2)

theorem op_add : OpR X (binaryOp .Add) (rI0 fun i j => .int (i + j)) := opI0 fun _ _ _ _ _ _ _ q => add_int q
theorem op_sub : OpR X (binaryOp .Sub) (rI0 fun i j => .int (i - j)) := opI0 fun _ _ _ _ _ _ _ q => sub_int q
theorem op_mul : OpR X (binaryOp .Mult) (rI CMul fun i j => .int (i * j)) := opI fun _ _ _ _ _ _ _ hc q => mul_int q hc.ok
/-- // by a positive divisor -/
theorem op_fdiv : OpR X (binaryOp .FloorDiv) (rI CDiv fun i j => .int (i / j)) := opI fun i j _ _ _ _ _ hc q => by
  have h1 : (0 : Int) < j := hc.1
  have h2 : j < 1073741824 := hc.2
  exact floordiv_int (by omega) (by rw [Int.fdiv_eq_ediv_of_nonneg i (by omega)]; exact q) (.inl (PyProof.noPylong_small (by omega)))
/-- % by a positive divisor of any size -/
theorem op_mod : OpR X (binaryOp .Mod) (rI (fun _ j => 0 < j) fun i j => .int (i % j)) := opI fun i j _ _ _ _ _ hc q => by
  have h1 : (0 : Int) < j := hc
  exact mod_int' (by omega) (by rw [Int.fmod_eq_emod_of_nonneg i (by omega)]; exact q)


theorem unI {f : Value → Sem Value} {g : Int → Int}
    (rule : ∀ (i : Int) (t : Tok) (s : Shared) (Q : Value → Shared → Prop) (E : Value → Shared → Prop), Q (.int (g i) s.toks) { s with toks := s.toks + 1 } → wpAny (model X.prog X.w) X.A (f (.int i t)) Q E s) :
    UnR X f (rU fun i => .int (g i)) := by
  intro pins s σ H x v Q I rx h
  obtain ⟨i, rfl, q⟩ := h
  obtain ⟨t, rfl⟩ := rx
  exact rule i t s _ _ ⟨.int (g i), H, I.tok _, ⟨_, rfl⟩, q⟩
theorem un_neg : UnR X (unaryOp .USub) (rU fun i => .int (-i)) := unI fun _ _ _ _ _ q => neg_int q

/-! ### bools among ints: n += (a < b) -/
end

/-! ### comparisons -/
/-- the scalars that == tells apart as data does -/
def scal : V → V → Bool
  | .non, .non => true | .non, .int _ => true | .int _, .non => true | .non, .bl _ => true | .bl _, .non => true | .non, .str _ => true | .str _, .non => true
  | .int _, .int _ => true | .bl _, .bl _ => true | .str _, .str _ => true | .byt _, .byt _ => true
  | .int _, .str _ => true | .str _, .int _ => true | .bl _, .str _ => true | .str _, .bl _ => true
  | _, _ => false
def rEq : R2 := fun x y H Q => scal x y = true ∧ Q (.bl (decide (x = y))) H
def rNe : R2 := fun x y H Q => scal x y = true ∧ Q (.bl (!decide (x = y))) H

theorem dec_int {i j : Int} : decide (V.int i = V.int j) = (i == j) := by
  rw [Bool.eq_iff_iff]
  simp
theorem dec_bl {i j : Bool} : decide (V.bl i = V.bl j) = (i == j) := by
  rw [Bool.eq_iff_iff]
  simp
theorem dec_str {i j : Str} : decide (V.str i = V.str j) = (i == j) := by
  rw [Bool.eq_iff_iff]
  simp
theorem dec_byt {i j : Array UInt8} : decide (V.byt i = V.byt j) = (i.toList == j.toList) := by
  rw [Bool.eq_iff_iff]
  cases i
  cases j
  simp

section
variable {X : Cx} {a b c : Expr} {ta tb tc : TE} {pos : Pos}
theorem fin_bl {pins : List (Addr × Obj)} {σ : St} {H : Hp} {s : Shared} {Q : VK} {k k' : Bool} (I : Inv X pins σ H s) (q : Q (.bl k) H) (e : k = k') : EP X pins σ Q (.bool k') s := by
  subst e
  exact ⟨.bl k, H, I, rfl, q⟩
theorem op_eq : OpR X (compareOp .Eq) rEq := by
  intro pins s σ H x y v u Q I rx ry h
  obtain ⟨hs, q⟩ := h
  cases x with
  | non =>
    cases rx
    cases y with
    | non => cases ry; exact PySem.EqNone.eq_none_none (fin_bl I q (by simp))
    | bl j => cases ry; exact PySem.EqNone.eq_none_bool (fin_bl I q (by simp))
    | int j => obtain ⟨t', rfl⟩ := ry; exact PySem.EqNone.eq_none_int (fin_bl I q (by simp))
    | str j => obtain ⟨t', rfl⟩ := ry; exact PySem.EqNone.eq_none_str (fin_bl I q (by simp))
    | _ => exact absurd (show false = true from hs) Bool.false_ne_true
  | bl i =>
    cases rx
    cases y with
    | non => cases ry; exact PySem.EqNone.eq_bool_none (fin_bl I q (by simp))
    | bl j => cases ry; exact eq_bool (fin_bl I q dec_bl)
    | str j => obtain ⟨t', rfl⟩ := ry; exact PySem.EqMixed.eq_bool_str (fin_bl I q (by simp))
    | _ => exact absurd (show false = true from hs) Bool.false_ne_true
  | int i =>
    obtain ⟨t, rfl⟩ := rx
    cases y with
    | non => cases ry; exact PySem.EqNone.eq_int_none (fin_bl I q (by simp))
    | int j => obtain ⟨t', rfl⟩ := ry; exact eq_int (fin_bl I q dec_int)
    | str j => obtain ⟨t', rfl⟩ := ry; exact PySem.EqMixed.eq_int_str (fin_bl I q (by simp))
    | _ => exact absurd (show false = true from hs) Bool.false_ne_true
  | str i =>
    obtain ⟨t, rfl⟩ := rx
    cases y with
    | non => cases ry; exact PySem.EqNone.eq_str_none (fin_bl I q (by simp))
    | bl j => cases ry; exact PySem.EqMixed.eq_str_bool (fin_bl I q (by simp))
    | int j => obtain ⟨t', rfl⟩ := ry; exact PySem.EqMixed.eq_str_int (fin_bl I q (by simp))
    | str j => obtain ⟨t', rfl⟩ := ry; exact eq_str (fin_bl I q dec_str)
    | _ => exact absurd (show false = true from hs) Bool.false_ne_true
  | byt i =>
    obtain ⟨t, rfl⟩ := rx
    cases y with
    | byt j => obtain ⟨t', rfl⟩ := ry; exact PySem.W.eq_bytes (fin_bl I q dec_byt)
    | _ => exact absurd (show false = true from hs) Bool.false_ne_true
  | _ => cases y <;> exact absurd (show false = true from hs) Bool.false_ne_true
theorem op_ne : OpR X (compareOp .NotEq) rNe := by
  intro pins s σ H x y v u Q I rx ry h
  obtain ⟨hs, q⟩ := h
  cases x with
  | non =>
    cases rx
    cases y with
    | non => cases ry; exact PySem.EqNone.ne_none_none (fin_bl I q (by simp))
    | bl j => cases ry; exact PySem.EqNone.ne_none_bool (fin_bl I q (by simp))
    | int j => obtain ⟨t', rfl⟩ := ry; exact PySem.EqNone.ne_none_int (fin_bl I q (by simp))
    | str j => obtain ⟨t', rfl⟩ := ry; exact PySem.EqNone.ne_none_str (fin_bl I q (by simp))
    | _ => exact absurd (show false = true from hs) Bool.false_ne_true
  | bl i =>
    cases rx
    cases y with
    | non => cases ry; exact PySem.EqNone.ne_bool_none (fin_bl I q (by simp))
    | bl j => cases ry; exact ne_bool (fin_bl I q (congrArg not dec_bl))
    | str j => obtain ⟨t', rfl⟩ := ry; exact PySem.EqMixed.ne_bool_str (fin_bl I q (by simp))
    | _ => exact absurd (show false = true from hs) Bool.false_ne_true
  | int i =>
    obtain ⟨t, rfl⟩ := rx
    cases y with
    | non => cases ry; exact PySem.EqNone.ne_int_none (fin_bl I q (by simp))
    | int j => obtain ⟨t', rfl⟩ := ry; exact ne_int (fin_bl I q (congrArg not dec_int))
    | str j => obtain ⟨t', rfl⟩ := ry; exact PySem.EqMixed.ne_int_str (fin_bl I q (by simp))
    | _ => exact absurd (show false = true from hs) Bool.false_ne_true
  | str i =>
    obtain ⟨t, rfl⟩ := rx
    cases y with
    | non => cases ry; exact PySem.EqNone.ne_str_none (fin_bl I q (by simp))
    | bl j => cases ry; exact PySem.EqMixed.ne_str_bool (fin_bl I q (by simp))
    | int j => obtain ⟨t', rfl⟩ := ry; exact PySem.EqMixed.ne_str_int (fin_bl I q (by simp))
    | str j => obtain ⟨t', rfl⟩ := ry; exact ne_str (fin_bl I q (congrArg not dec_str))
    | _ => exact absurd (show false = true from hs) Bool.false_ne_true
  | byt i =>
    obtain ⟨t, rfl⟩ := rx
    cases y with
    | byt j => obtain ⟨t', rfl⟩ := ry; exact PySem.W.ne_bytes (fin_bl I q (congrArg not dec_byt))
    | _ => exact absurd (show false = true from hs) Bool.false_ne_true
  | _ => cases y <;> exact absurd (show false = true from hs) Bool.false_ne_true

theorem op_lt : OpR X (compareOp .Lt) (rI0 fun i j => .bl (decide (i < j))) := opB0 fun _ _ _ _ _ _ _ q => lt_int q
theorem op_le : OpR X (compareOp .LtE) (rI0 fun i j => .bl (decide (i ≤ j))) := opB0 fun _ _ _ _ _ _ _ q => le_int q
theorem op_gt : OpR X (compareOp .Gt) (rI0 fun i j => .bl (decide (j < i))) := opB0 fun _ _ _ _ _ _ _ q => gt_int q
theorem op_ge : OpR X (compareOp .GtE) (rI0 fun i j => .bl (decide (j ≤ i))) := opB0 fun _ _ _ _ _ _ _ q => ge_int q




theorem nomark (b : Expr) {op : CmpOp} (h : op ≠ .In := by decide) (h2 : op ≠ .NotIn := by decide) : behindInMarks op b = false := by
  have e1 : (op == CmpOp.In) = false := by cases op <;> first | rfl | exact absurd rfl h
  have e2 : (op == CmpOp.NotIn) = false := by cases op <;> first | rfl | exact absurd rfl h2
  cases b <;> simp [behindInMarks, e1, e2]
/-- a comparison as a value; hm: nomark b, or (for in, not in) by with_unfolding_all rfl -/
theorem pe_cmpR {op : CmpOp} {r : R2} (ho : OpR X (compareOp op) r) (ha : PE X a ta) (hb : PE X b tb) (hm : behindInMarks op b = false) : PE X (.Compare a [op] [b] pos) (tOp r ta tb) := by
  intro pins s σ H Q I h
  exact wpAny_Compare1 (binT ha hb I h fun v u s2 x y H2 I2 rx ry q => ho pins s2 σ H2 x y v u Q I2 rx ry q) hm
/-- a reading of a value as a test -/
def tTest (t : TE) : TT := fun σ H Q => t σ H fun x H' => ∃ k, x = .bl k ∧ Q k H'
theorem pt_cmpR {op : CmpOp} {r : R2} (ho : OpR X (compareOp op) r) (ha : PE X a ta) (hb : PE X b tb) (hm : behindInMarks op b = false) : PT X (.Compare a [op] [b] pos) (tTest (tOp r ta tb)) := by
  intro pins s σ H Q I h
  refine wpAny_isTrue_Compare1 (thn (ha pins s σ H _ I h) fun v s1 ⟨x, H1, I1, r1, q1⟩ => thn (hb pins s1 σ H1 _ I1 q1) fun u s2 ⟨y, H2, I2, r2, q2⟩ =>
    thn (ho pins s2 σ H2 x y v u _ I2 r1 r2 q2) fun c s3 ⟨z, H3, I3, r3, k, e, q3⟩ => ?_) hm
  subst e
  cases r3
  exact wpAny_truthy_bool ⟨H3, I3, q3⟩

/-! ### truth -/
/-- a value's truth by the abstract heap -/
def TruV (K : PySem.W.Frag) (x : V) (H : Hp) (k : Bool) : Prop :=
  match x with
  | .non => k = false
  | .bl b => k = b
  | .int i => k = (i != 0)
  | .str y => y.length ≤ sizeLine ∧ k = ((y.length : Int) != 0)
  | .byt y => y.size ≤ sizeLine ∧ k = ((y.size : Int) != 0)
  | .ref p => (∃ xs, SqL K H p xs ∧ k = !xs.isEmpty) ∨ (∃ xs, SqT K H p xs ∧ k = !xs.isEmpty) ∨ ∃ kvs, H p = some (.dK kvs) ∧ k = !kvs.isEmpty
  | _ => False
theorem isEmpty_kv {κ : Type} {kvs : List (κ × V)} {vs : List (κ × Value)} (r : KV kvs vs) : (!vs.isEmpty) = !kvs.isEmpty := by
  cases r <;> rfl
theorem isEmpty_of {xs : List V} {its : List Value} (r : Vals xs its) : (!its.toArray.isEmpty) = !xs.isEmpty := by
  cases r <;> simp
theorem line63 : (sizeLine : Nat) < 2 ^ 63 := by rw [sizeLine_eq]; decide
theorem tru_ok : TruR X (fun x H Q => ∃ k, TruV X.K x H k ∧ Q k H) := by
  intro pins s σ H x v Q I rx h
  obtain ⟨k, e, q⟩ := h
  have hl := line63
  have hs : sizeLine = 16777216 := sizeLine_eq
  cases x with
  | non =>
    cases rx
    have e' : k = false := e
    subst e'
    exact truthy_none ⟨H, I, q⟩
  | bl b =>
    cases rx
    have e' : k = b := e
    subst e'
    exact wpAny_truthy_bool ⟨H, I, q⟩
  | int i =>
    obtain ⟨t, rfl⟩ := rx
    have e' : k = (i != 0) := e
    subst e'
    exact PySem.P.truthy_int ⟨H, I, q⟩
  | str y =>
    obtain ⟨t, rfl⟩ := rx
    obtain ⟨hy, e'⟩ : y.length ≤ sizeLine ∧ k = ((y.length : Int) != 0) := e
    subst e'
    exact PySem.P.truthy_str (by omega) ⟨H, I.tok _, q⟩
  | byt y =>
    obtain ⟨t, rfl⟩ := rx
    obtain ⟨hy, e'⟩ : y.size ≤ sizeLine ∧ k = ((y.size : Int) != 0) := e
    subst e'
    exact PySem.W.truthy_bytes (by omega) ⟨H, I.tok _, q⟩
  | ref p =>
    cases rx
    have e' : (∃ xs, SqL X.K H p xs ∧ k = !xs.isEmpty) ∨ (∃ xs, SqT X.K H p xs ∧ k = !xs.isEmpty) ∨ ∃ kvs, H p = some (.dK kvs) ∧ k = !kvs.isEmpty := e
    rcases e' with ⟨xs, hx, e'⟩ | ⟨xs, hx, e'⟩ | ⟨kvs, hx, e'⟩
    · subst e'
      obtain ⟨its, r, pl, hz⟩ := I.list hx
      have hlen := r.length
      exact wpAny_truthy_list pl.isList (by simp only [List.size_toArray]; omega) ⟨H, I.tok _, by rw [isEmpty_of r]; exact q⟩
    · subst e'
      obtain ⟨its, r, pl, hz⟩ := I.tuple hx
      have hlen := r.length
      exact truthy_tuple pl (by simp only [List.size_toArray]; omega) ⟨H, I.tok _, by rw [isEmpty_of r]; exact q⟩
    · subst e'
      obtain ⟨hz, hS, vs, r, m⟩ : kvs.length ≤ sizeLine ∧ (p == sysModules) = false ∧ ∃ vs, KV kvs vs ∧ s.heap.DictOf (mixKind X.prog X.w) p vs := I.hok p _ hx
      have hlen : kvs.length = vs.length := Paired.length r
      exact wpAny_truthy_dict hS m (by omega) ⟨H, I.tok _, by rw [isEmpty_kv r]; exact q⟩
  | _ => exact (show False from e).elim
/-- any expression whose test is its value's truth (a name, a call, a subscript, a field ..: he by fun _ => rfl) -/
theorem pt_truth (ha : PE X a ta) (he : ∀ whole, isTrue a X.env whole = (do let v ← whole; standAt a.pos; holding [v] (truthy v))) :
    PT X a (fun σ H Q => ta σ H fun x H' => ∃ k, TruV X.K x H' k ∧ Q k H') := by
  intro pins s σ H Q I h
  exact isTrue_plain (thn (ha pins s σ H _ I h) fun v s1 ⟨x, H1, I1, r1, q1⟩ => tru_ok pins s1 σ H1 x v Q I1 r1 q1) (he _)

/-! ### strs and bytes -/


/-! ### scalar builtins, by CallR -/
theorem vals1 {x : V} {us : List Value} (r : Vals [x] us) : ∃ u, us = [u] ∧ RelV x u := by
  cases r with
  | cons r1 r2 => cases r2; exact ⟨_, rfl, r1⟩
theorem vals2 {x y : V} {us : List Value} (r : Vals [x, y] us) : ∃ u w', us = [u, w'] ∧ RelV x u ∧ RelV y w' := by
  cases r with
  | cons r1 r2 =>
    cases r2 with
    | cons r3 r4 => cases r4; exact ⟨_, _, rfl, r1, r3⟩
theorem call_max2 (hc : X.calm = true) : CallR X (.builtin "max") (fun xs H Q => ∃ i j, xs = [.int i, .int j] ∧ Q (.int (if j > i then j else i)) H) := by
  intro pins s σ H xs us Q I r h
  obtain ⟨i, j, rfl, q⟩ := h
  obtain ⟨u, w', rfl, ⟨t, rfl⟩, ⟨t', rfl⟩⟩ := vals2 r
  refine max_two_ints (I.ok.hd hc) fun h' tk k => ⟨_, H, I.kept k, ?_, q⟩
  by_cases hj : j > i
  · rw [if_pos hj, if_pos hj]; exact ⟨_, rfl⟩
  · rw [if_neg hj, if_neg hj]; exact ⟨_, rfl⟩
theorem call_min2 (hc : X.calm = true) : CallR X (.builtin "min") (fun xs H Q => ∃ i j, xs = [.int i, .int j] ∧ Q (.int (if j < i then j else i)) H) := by
  intro pins s σ H xs us Q I r h
  obtain ⟨i, j, rfl, q⟩ := h
  obtain ⟨u, w', rfl, ⟨t, rfl⟩, ⟨t', rfl⟩⟩ := vals2 r
  refine min_two_ints (I.ok.hd hc) fun h' tk k => ⟨_, H, I.kept k, ?_, q⟩
  by_cases hj : j < i
  · rw [if_pos hj, if_pos hj]; exact ⟨_, rfl⟩
  · rw [if_neg hj, if_neg hj]; exact ⟨_, rfl⟩
end
end L2

namespace L2
open PySem PySem.Spec PyProof.Rows

/-! ### an instance, its attributes a map -/
structure ObjM (h : Heap) (x dx C : Addr) (mA : Str → Option Value) : Prop where
  obj : h.get? x = some (PySem.W.instObj C dx)
  ns : h.Ns1 dx mA
  ne : dx ≠ x

theorem lookIn_ns {h : Heap} {dx : Addr} {mA : Str → Option Value} (n : h.Ns1 dx mA) : ∃ od, h.get? dx = some od ∧ ∀ name, PySem.W.lookIn name od = some (mA name) := by
  obtain ⟨o, es, ep, ho, hd, hk, _, hm⟩ := n
  refine ⟨o, ho, fun name => ?_⟩
  have e := hm name
  unfold nsFind findBy at e
  rw [← Array.find?_toList] at e
  unfold PySem.W.lookIn
  rw [hd]
  dsimp only
  split
  · rename_i y q
    rw [q] at e
    exact congrArg some e
  · rename_i q
    rw [q] at e
    have a : es.toList.any (·.refKey) = false := by
      rw [List.any_eq_false]
      intro y hy
      obtain ⟨z, t, hkey⟩ := hk y (Array.mem_toList_iff.mp hy)
      simp [DictEntry.refKey, hkey]
    have a' : ¬ es.toList.any (·.refKey) = true := by rw [a]; exact Bool.false_ne_true
    rw [if_neg a']
    exact congrArg some e

theorem ObjM.look {h : Heap} {x dx C : Addr} {mA : Str → Option Value} (I : ObjM h x dx C mA) : ∃ od, PySem.W.InstAt h x (PySem.W.instObj C dx) C (some od) ∧ ∀ name, PySem.W.lookIn name od = some (mA name) :=
  let ⟨od, ho, hl⟩ := lookIn_ns I.ns
  ⟨od, ⟨I.obj, rfl, rfl, ho⟩, hl⟩

section
variable {prog : Program} {w : World} {A : Around} {E : Value → Shared → Prop} {s : Shared} {K : PySem.W.Frag} {x dx C f : Addr} {mA : Str → Option Value} {name : Str} {v : Value}

theorem get_map {expr : Bool} {Q : Value → Shared → Prop} (X : K.In s.heap) (I : ObjM s.heap x dx C mA) (hg : PySem.W.plainGet K C name = true) (hh : PySem.W.hasDictIn K C = true)
    (ha : PySem.W.findIn K (.ref C) name = some none) (hv : mA name = some v) (hv' : PySem.W.handedIn v = true) (h : Q v { s with toks := s.toks + 1 }) :
    wpAny (model prog w) A (getAttr (.ref x) name expr) Q E s := by
  obtain ⟨od, J, hl⟩ := I.look
  exact PySem.W.get_value X J (PySem.W.plainGet_of hg).1 (PySem.W.findObj_own hh ha rfl (by rw [hl, hv])) hv' h


theorem get_meth {pl : Sem Bool} {Q : Value × List Value → Shared → Prop} (X : K.In s.heap) (I : ObjM s.heap x dx C mA) (hg : PySem.W.plainGet K C name = true)
    (hf : PySem.W.findIn K (.ref C) name = some (some (.ref f))) (ht : PySem.W.isFn K (.ref f) = true) (hv : mA name = none) (h : Q (.ref f, [.ref x]) s) :
    wpAny (model prog w) A (getMethod (.ref x) name pl) Q E s := by
  obtain ⟨od, J, hl⟩ := I.look
  exact PySem.W.method_fn X J (PySem.W.plainGet_of hg).1 (PySem.W.plainGet_of hg).2 hf (beq_iff_eq.mp ht) (by show (PySem.W.lookIn name od).map (·.isSome) = some false; rw [hl, hv]; rfl) h

theorem set_map {ns : List Str} {Q : Unit → Shared → Prop} (X : K.In s.heap) (I : ObjM s.heap x dx C mA)
    (hs : PySem.W.findIn K (.ref C) "__setattr__" = some (some (.builtin "object.__setattr__"))) (hp : PySem.W.plainOver K C = true) (ht : PySem.W.takerIn K C name = some none) (hh : PySem.W.hasDictIn K C = true)
    (hw : PySem.Within mA ns) (hsz : ns.length ≤ sizeLine)
    (h : ∀ h', ObjM h' x dx C (fun y => if y = name then some v else mA y) → Heap.SameBut dx s.heap h' → Q () { s with heap := h', toks := s.toks + 2 }) :
    wpAny (model prog w) A (setAttr (.ref x) name v) Q E s := by
  obtain ⟨od, J, hl⟩ := I.look
  refine PySem.W.set_plain X J hs (PySem.W.osa_open (s := { s with toks := s.toks + 1 }) (r := none) X J hp ht fun b => ?_)
  obtain ⟨cd, hc, hd'⟩ := PySem.W.any_some hh
  have hx : s.heap.get? x = some ⟨.ref C, some dx, .plain, #[]⟩ := I.obj
  refine wpAny_bind (wpAny_pure (wpAny_bind (wpAny_bind (wpAny_loadPart hx (wpAny_bind (PySem.W.Looks.here (s := { s with toks := s.toks + 1 }) (PySem.W.looks_clsIn X hc) ?_))))))
  rw [hd']
  refine wpAny_pure (a := some dx) (wpAny_bind (wpAny_pure (wpAny_bind ?_)))
  refine wpAny_nsSet1 (s := { s with toks := s.toks + 1 }) I.ns fun h' hn2 hs2 => ?_
  obtain ⟨oD, esD, epD, hoD, hdD, hcD⟩ := hn2.count (PySem.Within.cons name v hw)
  refine wpAny_bind (wpAny_lookBehind hoD (by rw [hdD]; exact pastItsLine_dict (Nat.le_trans hcD (by rw [List.length_cons]; omega))) ?_)
  exact wpAny_pure (h _ ⟨(hs2.2 _ (Ne.symm I.ne)).trans I.obj, hn2, I.ne⟩ hs2)

/-- C(..): the dict at the heap's end, the instance behind it; then its __init__ -/
theorem make_map {R : Result → Shared → Prop} {vs : List Value} {kw : List (Str × Value)} (X : K.In s.heap) (hm : PySem.W.makesIn K C = true)
    (hi : PySem.W.findIn K (.ref C) "__init__" = some (some (.ref f))) (hf : PySem.W.typeIn K (.ref f) = some (.type "function"))
    (h : codeAny (model prog w) (A.under (.builtin "type.__call__" ⟨.ref C :: vs, kw⟩)) (.call (.ref f) ⟨.ref (s.heap.objs.size + 1) :: vs, kw⟩) (PySem.W.InitBack (s.heap.objs.size + 1) R)
      { s with heap := (s.heap.push PySem.W.emptyDict).push (PySem.W.instObj C s.heap.objs.size) }) :
    codeAny (model prog w) A (.call (.ref C) ⟨vs, kw⟩) R s := by
  obtain ⟨hh, g, d, t, os⟩ := s
  exact PySem.W.make_core (PySem.W.makes_of X hm) (PySem.W.looks_findIn X hi) (fun self => PySem.W.bind_fn X self hf) (.inl rfl) h
end

/-! ### the attributes as a list of pairs -/
def putF (f : Str) (v : V) : List (Str × V) → List (Str × V)
  | [] => [(f, v)]
  | (g, x) :: r => if g = f then (g, v) :: r else (g, x) :: putF f v r
theorem lookup_putF (f g : Str) (v : V) : ∀ fs : List (Str × V), (putF f v fs).lookup g = if g = f then some v else fs.lookup g
  | [] => by
    show List.lookup g [(f, v)] = _
    by_cases h : g = f
    · have hb : (g == f) = true := beq_iff_eq.mpr h
      simp only [List.lookup, hb, if_pos h]
    · have hb : (g == f) = false := beq_eq_false_iff_ne.mpr h
      simp only [List.lookup, hb, if_neg h]
  | (k, x) :: r => by
    have ih := lookup_putF f g v r
    rw [show putF f v ((k, x) :: r) = (if k = f then (k, v) :: r else (k, x) :: putF f v r) from rfl]
    by_cases hk : k = f
    · rw [if_pos hk]
      by_cases h : g = k
      · have hb : (g == k) = true := beq_iff_eq.mpr h
        simp only [List.lookup, hb, if_pos (h.trans hk)]
      · have hb : (g == k) = false := beq_eq_false_iff_ne.mpr h
        simp only [List.lookup, hb, if_neg (fun e : g = f => h (e.trans hk.symm))]
    · rw [if_neg hk]
      by_cases h : g = k
      · have hb : (g == k) = true := beq_iff_eq.mpr h
        simp only [List.lookup, hb, if_neg (fun e : g = f => hk (h.symm.trans e))]
      · have hb : (g == k) = false := beq_eq_false_iff_ne.mpr h
        simp only [List.lookup, hb]
        exact ih
theorem keys_putF (f : Str) (v : V) : ∀ fs : List (Str × V), f ∈ (putF f v fs).map (·.1) ∧ ∀ g, g ∈ fs.map (·.1) → g ∈ (putF f v fs).map (·.1)
  | [] => ⟨by simp [putF], fun g h => by simp at h⟩
  | (k, x) :: r => by
    obtain ⟨i1, i2⟩ := keys_putF f v r
    rw [show putF f v ((k, x) :: r) = (if k = f then (k, v) :: r else (k, x) :: putF f v r) from rfl]
    by_cases hk : k = f
    · rw [if_pos hk]
      subst hk
      exact ⟨by simp, fun g h => by simpa using h⟩
    · rw [if_neg hk]
      refine ⟨?_, fun g h => ?_⟩
      · rw [List.map_cons]
        exact List.mem_cons_of_mem _ i1
      · rw [List.map_cons] at h ⊢
        rcases List.mem_cons.mp h with e | e
        · exact List.mem_cons.mpr (.inl e)
        · exact List.mem_cons_of_mem _ (i2 g e)
theorem length_putF (f : Str) (v : V) : ∀ fs : List (Str × V), (putF f v fs).length ≤ fs.length + 1
  | [] => by simp [putF]
  | (k, x) :: r => by
    have ih := length_putF f v r
    rw [show putF f v ((k, x) :: r) = (if k = f then (k, v) :: r else (k, x) :: putF f v r) from rfl]
    by_cases hk : k = f
    · rw [if_pos hk, List.length_cons, List.length_cons]; omega
    · rw [if_neg hk, List.length_cons, List.length_cons]; omega

theorem RelO.some_of {v : V} {o : Option Value} (r : RelO (some v) o) : ∃ u, o = some u ∧ RelV v u := by
  cases o with
  | none => exact (show False from r).elim
  | some u => exact ⟨u, rfl, r⟩
theorem RelO.none_of {o : Option Value} (r : RelO none o) : o = none := by
  cases o with
  | none => rfl
  | some u => exact (show False from r).elim
theorem handed_of {v : V} {u : Value} (r : RelV v u) : PySem.W.handedIn u = true := by
  cases v with
  | non => cases (show u = Value.none from r); rfl
  | bl b => cases (show u = Value.bool b from r); rfl
  | int i => obtain ⟨t, e⟩ := (show ∃ t, u = Value.int i t from r); cases e; rfl
  | str x => obtain ⟨t, e⟩ := (show ∃ t, u = Value.str x t from r); cases e; rfl
  | byt b => obtain ⟨t, e⟩ := (show ∃ t, u = Value.bytes b t from r); cases e; rfl
  | flt b => obtain ⟨t, e⟩ := (show ∃ t, u = Value.float b t from r); cases e; rfl
  | ref a => cases (show u = Value.ref a from r); rfl
  | ty n => cases (show u = Value.type n from r); rfl

section
variable {P : Program} {w : World} {H H' : Hp} {h h' : Heap} {a C dx : Addr} {fs fs' : List (Str × V)}
theorem ins_get (hok : HOk P w H h) (e : H a = some (.ins C dx fs)) : ∃ mA, ObjM h a dx C mA ∧ (∀ f, RelO (fs.lookup f) (mA f)) ∧ PySem.Within mA (fs.map (·.1)) ∧ fs.length ≤ 1000 ∧ H dx = some (.own a) := by
  obtain ⟨d, z, ne, ob, mA, n, r, q⟩ := (show ObjOk P w H h a (.ins C dx fs) from hok a _ e)
  exact ⟨mA, ⟨ob, n, ne⟩, r, q, z, d⟩
end

/-! ### what of the text a class must have -/
structure Cls (K : PySem.W.Frag) (C : Addr) : Prop where
  pg : PySem.W.plainGet K C Str.empty = true
  hd : PySem.W.hasDictIn K C = true
  po : PySem.W.plainOver K C = true
  sa : PySem.W.findIn K (.ref C) "__setattr__" = some (some (.builtin "object.__setattr__"))
theorem Cls.get {K : PySem.W.Frag} {C : Addr} (c : Cls K C) (f : Str) : PySem.W.plainGet K C f = true := c.pg
/-- no class of it has the name -/
def NoAttr (K : PySem.W.Frag) (C : Addr) (f : Str) : Prop := PySem.W.findIn K (.ref C) f = some none
theorem NoAttr.taker {K : PySem.W.Frag} {C : Addr} {f : Str} (n : NoAttr K C f) : PySem.W.takerIn K C f = some none := by
  unfold PySem.W.takerIn
  rw [show PySem.W.findIn K (.ref C) f = some none from n]
  rfl
/-- a method: a plain def of the class or of one above it -/
structure Meth (K : PySem.W.Frag) (C : Addr) (m : Str) (f : Addr) : Prop where
  at_ : PySem.W.findIn K (.ref C) m = some (some (.ref f))
  fn : PySem.W.isFn K (.ref f) = true
  kp : PySem.W.keepIn K (.ref f) = true

section
variable {X : Cx} {pins : List (Addr × Obj)} {σ : St} {H : Hp} {s : Shared} {a C dx : Addr} {fs : List (Str × V)} {f : Str} {v : V} {A : Around} {E : Value → Shared → Prop}

theorem getattr_ok {b : Bool} {Q : Value → Shared → Prop} (I : Inv X pins σ H s) (e : H a = some (.ins C dx fs)) (c : Cls X.K C) (n : NoAttr X.K C f) (l : fs.lookup f = some v)
    (h : ∀ u s', Inv X pins σ H s' → RelV v u → Q u s') : wpAny (model X.prog X.w) A (getAttr (.ref a) f b) Q E s := by
  obtain ⟨mA, O, r, _, _, _⟩ := ins_get I.hok e
  obtain ⟨u, hu, ru⟩ := RelO.some_of (v := v) (o := mA f) (by rw [← l]; exact r f)
  exact get_map I.kIn O (c.get f) c.hd n hu (handed_of ru) (h u _ (I.tok _) ru)


theorem getmeth_ok {m : Str} {g : Addr} {pl : Sem Bool} {Q : Value × List Value → Shared → Prop} (I : Inv X pins σ H s) (e : H a = some (.ins C dx fs)) (c : Cls X.K C) (k : Meth X.K C m g) (l : fs.lookup m = none)
    (h : Q (.ref g, [.ref a]) s) : wpAny (model X.prog X.w) A (getMethod (.ref a) m pl) Q E s := by
  obtain ⟨mA, O, r, _, _, _⟩ := ins_get I.hok e
  have hn : mA m = none := RelO.none_of (by rw [← l]; exact r m)
  exact get_meth I.kIn O (c.get m) k.at_ k.fn hn h

theorem setattr_ok {y : V} {u : Value} {Q : Unit → Shared → Prop} (I : Inv X pins σ H s) (e : H a = some (.ins C dx fs)) (c : Cls X.K C) (n : NoAttr X.K C f) (hl : fs.length < 1000) (ry : RelV y u)
    (h : ∀ s', Inv X pins σ (upd H a (.ins C dx (putF f y fs))) s' → Q () s') : wpAny (model X.prog X.w) A (setAttr (.ref a) f u) Q E s := by
  obtain ⟨mA, O, r, wi, _, ho⟩ := ins_get I.hok e
  have hz : (fs.map (·.1)).length ≤ sizeLine := by rw [List.length_map, sizeLine_eq]; omega
  refine set_map I.kIn O c.sa c.po n.taker c.hd wi hz fun h' O' sb => h _ ?_
  have hd : ∃ o, h'.get? dx = some o := let ⟨o, _, _, e', _⟩ := O'.ns; ⟨o, e'⟩
  refine I.write (x := a) (e := dx) (by rw [e]; exact True.intro) (.inr ho) (fun b q hb z => (sb.2 b hb).trans z) hd ?_
  refine ⟨by rw [upd_ne O.ne]; exact ho, ?_, O.ne, O'.obj, _, O'.ns, fun g => ?_, fun g hg => ?_⟩
  · have := length_putF f y fs; omega
  · show RelO ((putF f y fs).lookup g) (if g = f then some u else mA g)
    rw [lookup_putF]
    by_cases q : g = f
    · rw [if_pos q, if_pos q]; exact ry
    · rw [if_neg q, if_neg q]; exact r g
  · by_cases q : g = f
    · rw [q]; exact (keys_putF f y fs).1
    · refine (keys_putF f y fs).2 g (wi g fun z => hg ?_)
      show (if g = f then some u else mA g) = none
      rw [if_neg q]; exact z

/-- a new instance, tracked, without attributes -/
theorem Inv.made (I : Inv X pins σ H s) : Inv X pins σ (upd (upd H s.heap.objs.size (.own (s.heap.objs.size + 1))) (s.heap.objs.size + 1) (.ins C s.heap.objs.size []))
    { s with heap := (s.heap.push PySem.W.emptyDict).push (PySem.W.instObj C s.heap.objs.size) } := by
  have e1 : (s.heap.push PySem.W.emptyDict).get? s.heap.objs.size = some PySem.W.emptyDict := Heap.get?_push_size s.heap rfl
  have e2 : ((s.heap.push PySem.W.emptyDict).push (PySem.W.instObj C s.heap.objs.size)).get? (s.heap.objs.size + 1) = some (PySem.W.instObj C s.heap.objs.size) := by
    have := Heap.get?_push_size (s.heap.push PySem.W.emptyDict) (o := PySem.W.instObj C s.heap.objs.size) rfl
    rwa [Heap.size_push] at this
  have e3 : (s.heap.push PySem.W.emptyDict).Ns s.heap.objs.size (fun _ => none) := ⟨PySem.W.emptyDict, #[], _, e1, rfl, (fun e he => absurd he (by simp)), fun _ => rfl⟩
  have I1 := I.laid (a := s.heap.objs.size) (o := .own (s.heap.objs.size + 1)) (h' := s.heap.push PySem.W.emptyDict) (t' := s.toks) (fun b u q => Heap.get?_push_of_some _ q) (Nat.le_refl _) ⟨_, e1⟩
  refine I1.laid (a := s.heap.objs.size + 1) (o := .ins C s.heap.objs.size []) (t' := s.toks) (fun b u q => Heap.get?_push_of_some _ q) (Nat.le_of_eq (Heap.size_push _ _)) ?_
  have ne : s.heap.objs.size ≠ s.heap.objs.size + 1 := Nat.ne_of_lt (Nat.lt_succ_self _)
  refine ⟨by rw [upd_ne ne, upd_same], Nat.zero_le _, ne, e2, fun _ => none, (Heap.Ns1.of_empty e3).at fun o q => Heap.get?_push_of_some _ q, fun _ => True.intro, fun y hy => absurd rfl hy⟩

/-- e.f where nothing but the object is asked: through attributeBase (super) and the last hold -/
theorem attr_of {prog : Program} {w : World} {env : Env} {e : Expr} {f : Str} {pos : Pos} {s : Shared} {Q : Value → Shared → Prop} (hb : attributeBase e f env (eval e env) = eval e env)
    (h : wpAny (model prog w) A (eval e env) (fun o s₁ => wpAny (model prog w) A (getAttr o f true) Q E s₁) E s) : wpAny (model prog w) A (eval (.Attribute e f pos) env) Q E s :=
  Attribute_any_ h (by rw [arm_eval_Attribute, hb])
end

/-! ### readings and rules -/
/-- e.f, an attribute of the instance -/
def tFld (K : PySem.W.Frag) (ta : TE) (f : Str) : TE := fun σ H Q => ta σ H fun x H1 => ∃ a C dx fs v, x = .ref a ∧ H1 a = some (.ins C dx fs) ∧ Cls K C ∧ NoAttr K C f ∧ fs.lookup f = some v ∧ Q v H1
/-- e.f = value -/
def sFld (K : PySem.W.Frag) (ta tv : TE) (f : Str) : TS := fun D σ H => tv σ H fun y H1 => ta σ H1 fun x H2 => ∃ a C dx fs, x = .ref a ∧ H2 a = some (.ins C dx fs) ∧ Cls K C ∧ NoAttr K C f ∧ fs.length < 1000 ∧
  D.nx σ (upd H2 a (.ins C dx (putF f y fs)))
/-- an augmented operator on two values -/
def InOp (X : Cx) (op : Operator) (rd : V → V → Hp → VK → Prop) : Prop :=
  ∀ (pins : List (Addr × Obj)) (s : Shared) (σ : St) (H : Hp) (x y : V) (u v : Value) (Q : VK), Inv X pins σ H s → RelV x u → RelV y v → rd x y H Q → wpAny (model X.prog X.w) X.A (inplaceOp op u v) (EP X pins σ Q) X.xe s
/-- e.f op= value -/
def sFldAug (K : PySem.W.Frag) (ta tv : TE) (rd : V → V → Hp → VK → Prop) (f : Str) : TS := fun D σ H => ta σ H fun x H1 => ∃ a C dx fs v, x = .ref a ∧ H1 a = some (.ins C dx fs) ∧ Cls K C ∧ NoAttr K C f ∧ fs.lookup f = some v ∧
  tv σ H1 fun y H2 => rd v y H2 fun z H3 => ∃ dx' fs', H3 a = some (.ins C dx' fs') ∧ fs'.length < 1000 ∧ D.nx σ (upd H3 a (.ins C dx' (putF f z fs')))

section
variable {X : Cx} {o e value : Expr} {f : Str} {pos pos' tpos : Pos} {ta tv : TE}
theorem pe_fld (he : PE X e ta) (hb : attributeBase e f X.env (eval e X.env) = eval e X.env) : PE X (.Attribute e f pos) (tFld X.K ta f) := by
  intro pins s σ H Q I h
  refine attr_of hb (thn (he pins s σ H _ I h) fun u s1 ⟨x, H1, I1, rx, a, C, dx, fs, v, ex, ea, c, n, l, q⟩ => ?_)
  subst ex
  obtain rfl : u = Value.ref a := rx
  exact getattr_ok I1 ea c n l fun u' s2 I2 ru => ⟨v, H1, I2, ru, q⟩
theorem ps_fld (ha : PE X o ta) (hv : PE X value tv) (hs : swapsWith value (some (.Attribute o f pos')) pos.line X.env = pure false) : PS X (.Assign [.Attribute o f pos'] value pos) (sFld X.K ta tv f) := by
  intro pins s σ H D I h
  refine plainObj_wpAny_Assign_Attribute (thn (hv pins s σ H _ I h) fun u s1 ⟨y, H1, I1, ry, q⟩ => thn (ha pins s1 σ H1 _ I1 q) fun ov s2 ⟨x, H2, I2, rx, a, C, dx, fs, ex, ea, c, n, l, q2⟩ => ?_) hs
  subst ex
  obtain rfl : ov = Value.ref a := rx
  exact setattr_ok I2 ea c n l ry fun s3 I3 => ⟨σ, _, I3, q2⟩
theorem ps_fldaug {op : Operator} {rd : V → V → Hp → VK → Prop} (ha : PE X o ta) (hv : PE X value tv) (hop : InOp X op rd) : PS X (.AugAssign (.Attribute o f tpos) op value pos) (sFldAug X.K ta tv rd f) := by
  intro pins s σ H D I h
  refine wpAny_AugAssign_AttributeAny (thn (ha pins s σ H _ I h) fun ov s1 ⟨x, H1, I1, rx, a, C, dx, fs, v, ex, ea, c, n, l, q⟩ => ?_)
  subst ex
  obtain rfl : ov = Value.ref a := rx
  refine getattr_ok I1 ea c n l fun u s2 I2 ru => thn (hv pins s2 σ H1 _ I2 q) fun w3 s3 ⟨y, H2, I3, ry, q3⟩ => thn (hop pins s3 σ H2 v y u w3 _ I3 ru ry q3) fun w4 s4 ⟨z, H3, I4, rz, dx', fs', ea', l', q4⟩ => ?_
  exact setattr_ok I4 ea' c n l' rz fun s5 I5 => ⟨σ, _, I5, q4⟩
def rAdd : V → V → Hp → VK → Prop := fun x y H Q => ∃ i j, x = .int i ∧ y = .int j ∧ Q (.int (i + j)) H
theorem in_add : InOp X .Add rAdd := by
  rintro pins s σ H x y u v Q I rx ry ⟨i, j, rfl, rfl, q⟩
  obtain ⟨t, rfl⟩ := (show ∃ t, u = Value.int i t from rx)
  obtain ⟨t', rfl⟩ := (show ∃ t', v = Value.int j t' from ry)
  exact PyProof.Rows.iadd_int ⟨.int (i + j), H, I.tok _, ⟨_, rfl⟩, q⟩

/-- what is between an instance and its method: the tree of a method call -/
theorem methcall_of {pl : Sem Bool} {m : Str} {apos : Pos} {args : List Expr} {pins : List (Addr × Obj)} {s : Shared} {σ : St} {H : Hp} {Q : Value → Shared → Prop} {te : TE} (he : PE X e te) (I : Inv X pins σ H s)
    (h : te σ H fun x H1 => ∃ a C dx fs g, x = .ref a ∧ H1 a = some (.ins C dx fs) ∧ Cls X.K C ∧ Meth X.K C m g ∧ fs.lookup m = none ∧
      ∀ s1, Inv X pins σ H1 s1 → wpAny (model X.prog X.w) X.A (callWith pos (.ref g) [.ref a] (backTo pos (starEach args X.env)) (backToKw pos (keywordEach [] X.env))) Q X.xe s1)
    (ht : eval (.Call (.Attribute e m apos) args [] pos) X.env = (do
      let ov ← eval e X.env
      standAt apos.atName
      let (f, first) ← holding [ov] (getMethod ov m pl)
      callWith pos f first (backTo pos (starEach args X.env)) (backToKw pos (keywordEach [] X.env)))) :
    wpAny (model X.prog X.w) X.A (eval (.Call (.Attribute e m apos) args [] pos) X.env) Q X.xe s := by
  refine PySem.W.methodCall_KW (pl := pl) (thn (he pins s σ H _ I h) fun u s1 ⟨x, H1, I1, rx, a, C, dx, fs, g, ex, ea, c, k, l, q⟩ => ?_) ht
  subst ex
  obtain rfl : u = Value.ref a := rx
  exact getmeth_ok I1 ea c k l (q s1 I1)
end

/-! ### isinstance -/
section
variable {X : Cx} {pins : List (Addr × Obj)} {σ : St} {H : Hp} {s : Shared} {A : Around} {E : Value → Shared → Prop} {Q : Value → Shared → Prop} {c : Value} {b : Bool}
end
end L2

namespace L2
open PySem PySem.Spec PyProof.Rows

/-! ### room -/
structure Room (k : Nat) (A : Around) : Prop where
  hd : A.handled = none
  dp : A.depth + 3 * k + 5 < recursionLimit
  un : A.units + 16 * k + 200 < cLine
theorem Room.mono {j k : Nat} {A : Around} (r : Room k A) (h : j ≤ k) : Room j A := ⟨r.hd, by have := r.dp; omega, by have := r.un; omega⟩
theorem Room.deeper {k : Nat} {A : Around} (r : Room (k + 1) A) (env : Env) : Room k (A.deeper env) :=
  ⟨r.hd, by have := r.dp; show A.depth + 1 + 3 * k + 5 < _; omega, by have := r.un; show A.units + 3 + 16 * k + 200 < _; omega⟩
theorem make_depth {A : Around} {C : Addr} {us : List Value} {kw : List (Str × Value)} : (A.under (.builtin "type.__call__" ⟨.ref C :: us, kw⟩)).depth = A.depth + 1 := by
  first | rfl | simp [Around.under, Code.weight, Code.isCreation, Code.isGuard, Code.isCaller, Code.frames, Code.isFrame, guardIds]
theorem make_units {A : Around} {C : Addr} {us : List Value} {kw : List (Str × Value)} : (A.under (.builtin "type.__call__" ⟨.ref C :: us, kw⟩)).units = A.units + 1 := by
  first | rfl | simp [Around.under, Code.cUnits, Code.frames, Code.isFrame]
theorem Room.make {k : Nat} {A : Around} (r : Room (k + 1) A) (C : Addr) (us : List Value) (kw : List (Str × Value)) : Room k (A.under (.builtin "type.__call__" ⟨.ref C :: us, kw⟩)) :=
  ⟨r.hd, by have := r.dp; rw [make_depth]; omega, by have := r.un; rw [make_units]; omega⟩
theorem Room.depth {k : Nat} {A : Around} (r : Room k A) : A.depth < recursionLimit := by have := r.dp; omega
theorem Room.units {k : Nat} {A : Around} (r : Room k A) : A.units + 64 < cLine := by have := r.un; omega

/-! ### argument lists and displays -/
def tNil : TA := fun _ H Q => Q [] H
def tCons (ta : TE) (tr : TA) : TA := fun σ H Q => ta σ H fun x H1 => tr σ H1 fun xs H2 => Q (x :: xs) H2
section
variable {X : Cx} {e : Expr} {es : List Expr} {te : TE} {t : TA} {pos : Pos}
theorem pa_nil : PA X [] tNil := fun _ _ _ _ H Q I h => Calls.spliced_nil ⟨[], H, I, .nil, h⟩
theorem pa_cons (ha : PE X e te) (hr : PA X es t) (hs : starEach (e :: es) X.env = (false, eval e X.env) :: starEach es X.env := by rfl) : PA X (e :: es) (tCons te t) := by
  intro pos pins s σ H Q I h
  rw [hs]
  show wpAny _ _ (spliced ((false, eval e X.env) :: backTo pos (starEach es X.env))) _ _ s
  refine Calls.spliced_cons (thn (ha pins s σ H _ I h) fun u s1 ⟨x, H1, I1, r1, q1⟩ => ?_)
  exact thn (hr pos pins s1 σ H1 _ I1 q1) fun us s2 ⟨xs, H2, I2, r2, q2⟩ => ⟨x :: xs, H2, I2, .cons r1 r2, q2⟩

/-- a tuple, a list of written items -/
def tTup (t : TA) : TE := fun σ H Q => t σ H fun xs H1 => xs.length ≤ sizeLine ∧ ∀ p, H1 p = none → Q (.ref p) (upd H1 p (.tup xs))
def tLst (t : TA) : TE := fun σ H Q => t σ H fun xs H1 => xs.length ≤ sizeLine ∧ ∀ p, H1 p = none → Q (.ref p) (upd H1 p (.lst xs))
theorem pe_tup {x1} (h : PA X es t) : PE X (.Tuple es x1 pos) (tTup t) := by
  intro pins s σ H Q I hq
  refine wpAny_Tuple_spliced (thn (h pos pins s σ H _ I hq) fun us s1 ⟨xs, H1, I1, r, z, q⟩ => ⟨by rw [← r.length]; exact z, ?_⟩)
  have hf : H1 s1.heap.objs.size = none := I1.hok.fresh (Nat.le_refl _)
  refine ⟨.ref s1.heap.objs.size, upd H1 s1.heap.objs.size (.tup xs), I1.laid (t' := s1.toks) (fun b u e => Heap.get?_push_of_some _ e) (Nat.le_refl _) ?_, rfl, q _ hf⟩
  exact ⟨z, us, r, ⟨_, Heap.get?_push_size _ rfl, rfl, _, rfl⟩⟩
theorem pe_lst (h : PA X es t) : PE X (.List es pos) (tLst t) := by
  intro pins s σ H Q I hq
  refine wpAny_List_spliced (thn (h pos pins s σ H _ I hq) fun us s1 ⟨xs, H1, I1, r, z, q⟩ => ⟨by rw [← r.length]; exact z, ?_⟩)
  have hf : H1 s1.heap.objs.size = none := I1.hok.fresh (Nat.le_refl _)
  refine ⟨.ref s1.heap.objs.size, upd H1 s1.heap.objs.size (.lst xs), I1.laid (t' := s1.toks) (fun b u e => Heap.get?_push_of_some _ e) (Nat.le_refl _) ?_, rfl, q _ hf⟩
  exact ⟨z, us, 0, r, Heap.get?_push_size _ rfl⟩
end

/-! ### what a def promises -/
/-- a def's promise: the bound arguments in the parameters' order, the heap, the wanted end, the wanted exception -/
abbrev Sp := List V → Hp → VK → XK → Prop
/-- how an exception lies behind a call (file 08 gives it): the callers' frames, abstract heap and state ahead of the call, the wish, the exception, the state -/
abbrev CXT := List Env → Hp → Shared → XK → Value → Shared → Prop

/-- the state at a call -/
structure Env0 (P : Program) (w : World) (K : PySem.W.Frag) (mg : Str → Option Value) (base : Heap) (A : Around) (outer : List Env) (s : Shared) (H : Hp) : Prop where
  frames : A.frames = some outer
  mod : Mod K mg base
  bs : ∀ b o, base.get? b = some o → s.heap.get? b = some o ∧ H b = none
  bsz : base.objs.size ≤ s.heap.objs.size
  funs : s.heap.FunFrames base outer
  frf : ∀ b ∈ frs outer, H b = none
  hok : HOk P w H s.heap
  bare : AllBare s.gens
/-- a call's end -/
def CE (outer : List Env) (P : Program) (w : World) (H : Hp) (s : Shared) (Q : VK) (u : Value) (s' : Shared) : Prop :=
  ∃ v H', s'.os = s.os ∧ AllBare s'.gens ∧ Un (frs outer) [] H H' s.heap s'.heap ∧ HOk P w H' s'.heap ∧ RelV v u ∧ Q v H'
def CR (CX : CXT) (outer : List Env) (P : Program) (w : World) (H : Hp) (s : Shared) (Q : VK) (E : XK) (r : Result) (s' : Shared) : Prop :=
  match r with
  | .ok (.ret u) => CE outer P w H s Q u s'
  | .ok _ => False
  | .error e => CX outer H s E e s'
structure FnOk (P : Program) (w : World) (K : PySem.W.Frag) (mg : Str → Option Value) (base : Heap) (CX : CXT) (k : Nat) (f : Addr) (fd : FuncData) (ps : List Str) (sp : Sp) : Prop where
  len : ∀ vs H Q E, sp vs H Q E → vs.length = ps.length
  run : ∀ (A : Around) (outer : List Env) (s : Shared) (H : Hp) (args : Args) (us : List Value) (vs : List V) (Q : VK) (E : XK), Room k A → Env0 P w K mg base A outer s H → BindsTo s fd args (ps.zip us) → Vals vs us → sp vs H Q E →
    codeAny (model P w) A (.call (.ref f) args) (CR CX outer P w H s Q E) s

theorem Env0.make {P : Program} {w : World} {K : PySem.W.Frag} {mg : Str → Option Value} {base : Heap} {A : Around} {outer : List Env} {s : Shared} {H : Hp} (e : Env0 P w K mg base A outer s H) (C : Addr) (us : List Value) (kw : List (Str × Value)) :
    Env0 P w K mg base (A.under (.builtin "type.__call__" ⟨.ref C :: us, kw⟩)) outer s H := ⟨by first | exact e.frames | (simpa [Around.under, Code.envs, Code.isFrame, pushEnvs] using e.frames), e.mod, e.bs, e.bsz, e.funs, e.frf, e.hok, e.bare⟩

section
variable {X : Cx} {pins : List (Addr × Obj)} {σ : St} {H : Hp} {s s' : Shared}
/-- from a body: what a callee wants -/
theorem Inv.env0 (I : Inv X pins σ H s) : Env0 X.prog X.w X.K X.mg X.base X.A X.stack s H :=
  ⟨I.ok.frames, I.ok.mod, I.bs, Nat.le_trans I.ok.bsz I.sz, I.stack, I.stkFree, I.hok, I.bare⟩
/-- behind a call -/
theorem Inv.after {Q : VK} {u : Value} (I : Inv X pins σ H s) (h : CE X.stack X.prog X.w H s Q u s') : EP X pins σ Q u s' := by
  obtain ⟨v, H', os, bare, un, hok, r, q⟩ := h
  obtain ⟨hh, g, d, t, os'⟩ := s'
  obtain rfl : os' = s.os := os
  exact ⟨v, H', I.call (h' := hh) (g' := g) (d' := d) (t' := t) (ch := []) un hok bare (fun b z => absurd z (by simp)), r, q⟩
end

/-! ### calls -/
/-- f(..): the written arguments, then the defaults dvs; E: what is wanted of an exception -/
def tCall (sp : Sp) (dvs : List V) (E : XK) (t : TA) : TE := fun σ H Q => t σ H fun vs H1 => sp (vs ++ dvs) H1 Q E
/-- o.m(..) of an instance of the class at C -/
def tMeth (C : Addr) (m : Str) (sp : Sp) (dvs : List V) (E : XK) (ta : TE) (t : TA) : TE := fun σ H Q => ta σ H fun x H1 => ∃ a dx fs, x = .ref a ∧ H1 a = some (.ins C dx fs) ∧ fs.lookup m = none ∧
  t σ H1 fun vs H2 => sp (x :: (vs ++ dvs)) H2 Q E
/-- C(..): a new instance and its dict, then __init__ -/
def tMake (C : Addr) (sp : Sp) (dvs : List V) (E : XK) (t : TA) : TE := fun σ H Q => t σ H fun vs H1 => ∀ x dx, H1 x = none → H1 dx = none → dx ≠ x →
  sp (.ref x :: (vs ++ dvs)) (upd (upd H1 dx (.own x)) x (.ins C dx [])) (fun v H2 => v = .non ∧ Q (.ref x) H2) E

/-- how the parameters are bound: us the positional arguments, kw the keywords' values by name, ds the defaults that fill up -/
def Binds (K : PySem.W.Frag) (fd : FuncData) (ps : List Str) (ds : List Value) : Prop :=
  ∀ (s : Shared) (us : List Value), K.In s.heap → (us ++ ds).length = ps.length → BindsTo s fd ⟨us, []⟩ (ps.zip (us ++ ds))
/-- every parameter is given -/
theorem Binds.all {K : PySem.W.Frag} {fd : FuncData} {ps : List Str} (h : ∀ us : List Value, us.length = ps.length → bindArgs fd ⟨us, []⟩ = pure (ps.zip us)) : Binds K fd ps [] := fun s us _ hl => by
  rw [List.append_nil] at hl ⊢
  exact .of_eq (h us hl)

/-- an exception of a callee reaches what this body wants of exceptions -/
def Passes (CX : CXT) (X : Cx) (E : XK) : Prop := ∀ (pins : List (Addr × Obj)) (σ : St) (H : Hp) (s : Shared) (e : Value) (s' : Shared), Inv X pins σ H s → CX X.stack H s E e s' → X.xe e s'

section
variable {X : Cx} {CX : CXT} {k : Nat} {f C : Addr} {fd : FuncData} {ps : List Str} {sp : Sp} {dvs : List V} {ds : List Value} {E : XK} {x m : Str} {p pos apos : Pos} {e o : Expr} {es : List Expr} {ta : TE} {t : TA}

/-- the callee runs -/
theorem run_fn {pins : List (Addr × Obj)} {σ : St} {H : Hp} {s : Shared} {Q : VK} {us : List Value} {vs : List V} (F : FnOk X.prog X.w X.K X.mg X.base CX k f fd ps sp) (hr : Room k X.A) (hb : Binds X.K fd ps ds) (hd : Vals dvs ds) (hx : Passes CX X E)
    (I : Inv X pins σ H s) (r : Vals vs us) (h : sp (vs ++ dvs) H Q E) : wpAny (model X.prog X.w) X.A (call (.ref f) us) (EP X pins σ Q) X.xe s := by
  have r2 : Vals (vs ++ dvs) (us ++ ds) := r.append hd
  have hl : (us ++ ds).length = ps.length := by rw [← r2.length]; exact F.len _ _ _ _ h
  refine wpAny_call (codeAny_mono (F.run X.A X.stack s H ⟨us, []⟩ (us ++ ds) (vs ++ dvs) Q E hr I.env0 (hb s us I.kIn hl) r2 h) fun r s' hq => ?_)
  cases r with
  | error e => exact hx pins σ H s e s' I hq
  | ok fl =>
    cases fl with
    | ret u => exact I.after hq
    | next => exact False.elim hq
    | brk => exact False.elim hq
    | cont => exact False.elim hq

theorem pe_call (F : FnOk X.prog X.w X.K X.mg X.base CX k f fd ps sp) (hr : Room k X.A) (hg : Gl X x) (hm : X.mg x = some (.ref f)) (hk : PySem.W.keepIn X.K (.ref f) = true) (hb : Binds X.K fd ps ds) (hd : Vals dvs ds) (hx : Passes CX X E)
    (ha : PA X (e :: es) t) (hdb : (x == ("__debug__" : Str)) = false := by decide) (he : starEach (e :: es) X.env = (false, eval e X.env) :: starEach es X.env := by rfl) (hpl : (backTo pos (starEach es X.env)).any (·.1) = false := by rfl) :
    PE X (.Call (.Name x p) (e :: es) [] pos) (tCall sp dvs E t) := by
  intro pins s σ H Q I h
  refine wpAny_Call_Name_kw (ld_glob I hg hm ?_ hdb)
  refine PySem.W.callWith_K (h₀ := X.base) I.ok.mod.kin hk (thn (ha pos pins s σ H _ I h) fun us s1 ⟨vs, H1, I1, r, q⟩ => ⟨I1.kIn, ?_⟩) he hpl
  exact run_fn F hr hb hd hx I1 r q

/-- o.m(e, ..) -/
theorem pe_meth {pl : Sem Bool} (he : PE X o ta) (c : Cls X.K C) (hm : Meth X.K C m f) (F : FnOk X.prog X.w X.K X.mg X.base CX k f fd ps sp) (hr : Room k X.A) (hb : Binds X.K fd ps ds) (hd : Vals dvs ds) (hx : Passes CX X E) (ha : PA X (e :: es) t)
    (hst : starEach (e :: es) X.env = (false, eval e X.env) :: starEach es X.env := by rfl) (hpl : (backTo pos (starEach es X.env)).any (·.1) = false := by rfl)
    (ht : eval (.Call (.Attribute o m apos) (e :: es) [] pos) X.env = (do
      let ov ← eval o X.env
      standAt apos.atName
      let (f, first) ← holding [ov] (getMethod ov m pl)
      callWith pos f first (backTo pos (starEach (e :: es) X.env)) (backToKw pos (keywordEach [] X.env))) := by rfl) :
    PE X (.Call (.Attribute o m apos) (e :: es) [] pos) (tMeth C m sp dvs E ta t) := by
  intro pins s σ H Q I h
  refine PySem.W.methodCall_KW (pl := pl) (thn (he pins s σ H _ I h) fun u s1 ⟨x, H1, I1, rx, a, dx, fs, ex, ea, l, q⟩ => ?_) ht
  subst ex
  obtain rfl : u = Value.ref a := rx
  refine getmeth_ok I1 ea c hm l ?_
  refine PySem.W.callWith_K (first := [.ref a]) (h₀ := X.base) I.ok.mod.kin hm.kp (thn (ha pos pins s1 σ H1 _ I1 q) fun us s2 ⟨vs, H2, I2, r, q2⟩ => ⟨I2.kIn, ?_⟩) hst hpl
  exact run_fn (us := .ref a :: us) (vs := .ref a :: vs) F hr hb hd hx I2 (.cons rfl r) q2
/-- o.m() -/
theorem pe_meth0 {pl : Sem Bool} (he : PE X o ta) (c : Cls X.K C) (hm : Meth X.K C m f) (F : FnOk X.prog X.w X.K X.mg X.base CX k f fd ps sp) (hr : Room k X.A) (hb : Binds X.K fd ps ds) (hd : Vals dvs ds) (hx : Passes CX X E)
    (ht : eval (.Call (.Attribute o m apos) [] [] pos) X.env = (do
      let ov ← eval o X.env
      standAt apos.atName
      let (f, first) ← holding [ov] (getMethod ov m pl)
      callWith pos f first (backTo pos (starEach [] X.env)) (backToKw pos (keywordEach [] X.env))) := by rfl) :
    PE X (.Call (.Attribute o m apos) [] [] pos) (tMeth C m sp dvs E ta tNil) := by
  intro pins s σ H Q I h
  refine PySem.W.methodCall_KW (pl := pl) (thn (he pins s σ H _ I h) fun u s1 ⟨x, H1, I1, rx, a, dx, fs, ex, ea, l, q⟩ => ?_) ht
  subst ex
  obtain rfl : u = Value.ref a := rx
  refine getmeth_ok I1 ea c hm l ?_
  exact PySem.W.callWith_K0 (first := [.ref a]) I1.kIn hm.kp (run_fn (us := [.ref a]) (vs := [.ref a]) F hr hb hd hx I1 (.cons rfl .nil) q)

/-- what a class must have to be made -/
structure Mk (K : PySem.W.Frag) (C f : Addr) : Prop where
  makes : PySem.W.makesIn K C = true
  init : PySem.W.findIn K (.ref C) "__init__" = some (some (.ref f))
  fn : PySem.W.isFn K (.ref f) = true
  kp : PySem.W.keepIn K (.ref C) = true

theorem run_make {pins : List (Addr × Obj)} {σ : St} {H : Hp} {s : Shared} {Q : VK} {us : List Value} {vs : List V} (M : Mk X.K C f) (F : FnOk X.prog X.w X.K X.mg X.base CX k f fd ps sp) (hr : Room (k + 1) X.A) (hb : Binds X.K fd ps ds) (hd : Vals dvs ds)
    (hx : Passes CX X E) (I : Inv X pins σ H s) (r : Vals vs us)
    (h : ∀ x dx, H x = none → H dx = none → dx ≠ x → sp (.ref x :: (vs ++ dvs)) (upd (upd H dx (.own x)) x (.ins C dx [])) (fun v H2 => v = .non ∧ Q (.ref x) H2) E) :
    wpAny (model X.prog X.w) X.A (call (.ref C) us) (EP X pins σ Q) X.xe s := by
  have hq := h (s.heap.objs.size + 1) s.heap.objs.size (I.hok.fresh (Nat.le_succ _)) (I.hok.fresh (Nat.le_refl _)) (Nat.ne_of_lt (Nat.lt_succ_self _))
  have I2 := Inv.made (C := C) I
  have r2 : Vals (V.ref (s.heap.objs.size + 1) :: (vs ++ dvs)) (Value.ref (s.heap.objs.size + 1) :: (us ++ ds)) := .cons rfl (r.append hd)
  have hl : (Value.ref (s.heap.objs.size + 1) :: us ++ ds).length = ps.length := by
    have e := r2.length
    rw [F.len _ _ _ _ hq] at e
    exact e.symm
  refine wpAny_call (make_map (f := f) I.kIn M.makes M.init (beq_iff_eq.mp M.fn) (codeAny_mono (F.run _ X.stack _ _ ⟨Value.ref (s.heap.objs.size + 1) :: us, []⟩ (Value.ref (s.heap.objs.size + 1) :: (us ++ ds)) _ _ E (hr.make C us [])
    (I2.env0.make C us []) (hb _ (Value.ref (s.heap.objs.size + 1) :: us) I2.kIn hl) r2 hq) fun r s' hq' => ?_))
  cases r with
  | error e => exact hx pins σ _ _ e s' I2 hq'
  | ok fl =>
    cases fl with
    | ret u =>
      obtain ⟨v, H', I3, rv, ev, q3⟩ := I2.after hq'
      subst ev
      exact ⟨rv, ⟨V.ref (s.heap.objs.size + 1), H', I3, rfl, q3⟩⟩
    | next => exact False.elim hq'
    | brk => exact False.elim hq'
    | cont => exact False.elim hq'
theorem pe_make (M : Mk X.K C f) (F : FnOk X.prog X.w X.K X.mg X.base CX k f fd ps sp) (hr : Room (k + 1) X.A) (hg : Gl X x) (hm : X.mg x = some (.ref C)) (hb : Binds X.K fd ps ds) (hd : Vals dvs ds) (hx : Passes CX X E)
    (ha : PA X (e :: es) t) (hdb : (x == ("__debug__" : Str)) = false := by decide) (he : starEach (e :: es) X.env = (false, eval e X.env) :: starEach es X.env := by rfl) (hpl : (backTo pos (starEach es X.env)).any (·.1) = false := by rfl) :
    PE X (.Call (.Name x p) (e :: es) [] pos) (tMake C sp dvs E t) := by
  intro pins s σ H Q I h
  refine wpAny_Call_Name_kw (ld_glob I hg hm ?_ hdb)
  refine PySem.W.callWith_K (h₀ := X.base) I.ok.mod.kin M.kp (thn (ha pos pins s σ H _ I h) fun us s1 ⟨vs, H1, I1, r, q⟩ => ⟨I1.kIn, ?_⟩) he hpl
  exact run_make M F hr hb hd hx I1 r q
theorem pe_make0 (M : Mk X.K C f) (F : FnOk X.prog X.w X.K X.mg X.base CX k f fd ps sp) (hr : Room (k + 1) X.A) (hg : Gl X x) (hm : X.mg x = some (.ref C)) (hb : Binds X.K fd ps ds) (hd : Vals dvs ds) (hx : Passes CX X E)
    (hdb : (x == ("__debug__" : Str)) = false := by decide) : PE X (.Call (.Name x p) [] [] pos) (tMake C sp dvs E tNil) := by
  intro pins s σ H Q I h
  refine wpAny_Call_Name_kw (ld_glob I hg hm ?_ hdb)
  exact PySem.W.callWith_K0 I.kIn M.kp (run_make (us := []) M F hr hb hd hx I .nil h)
end

/-! ### keywords -/
/-- the values of the keywords, from the left -/
def PK (X : Cx) (kws : List Keyword) (t : TA) : Prop :=
  ∀ (pos : Pos) (pins : List (Addr × Obj)) (s : Shared) (σ : St) (H : Hp) (Q : List V → Hp → Prop), Inv X pins σ H s → t σ H Q → wpAny (model X.prog X.w) X.A (evalAll ((backToKw pos (keywordEach kws X.env)).map (·.2))) (AP X pins σ Q) X.xe s
section
variable {X : Cx} {CX : CXT} {k : Nat} {f C : Addr} {fd : FuncData} {ps ks : List Str} {sp : Sp} {E : XK} {x m : Str} {p pos apos kpos : Pos} {e o : Expr} {es : List Expr} {kws : List Keyword} {te ta : TE} {t tk : TA} {nm : Option Str}
theorem pk_nil : PK X [] tNil := fun _ _ _ _ H Q I h => wpAny_evalAll_nil ⟨[], H, I, .nil, h⟩
theorem pk_cons (ha : PE X e te) (hr : PK X kws t) : PK X (⟨nm, e, kpos⟩ :: kws) (tCons te t) := by
  intro pos pins s σ H Q I h
  show wpAny _ _ (evalAll ((do let v ← eval e X.env; standAt pos; pure v) :: (backToKw pos (keywordEach kws X.env)).map (·.2))) _ _ s
  refine wpAny_evalAll_cons (wpAny_bind (thn (ha pins s σ H _ I h) fun u s1 ⟨x, H1, I1, r1, q1⟩ => wpAny_bind (wpAny_standAt (wpAny_pure ?_))))
  exact thn (hr pos pins s1 σ H1 _ I1 q1) fun us s2 ⟨xs, H2, I2, r2, q2⟩ => ⟨x :: xs, H2, I2, .cons r1 r2, q2⟩

variable {g : List Value → List Value → List Value} {gV : List V → List V → List V}
end

/-! ### a def's body keeps its promise -/
/-- names: the parameters first -/
structure FnScope (N P : List Str) (sc : Scope) : Prop where
  kind : sc.kind = .function
  co : sc.isCoroutine = false
  gen : sc.isGenerator = false
  nd : N.Nodup
  pre : N.take P.length = P
  par : ∀ x ∈ P, sc.names.lookup x = some .local ∨ sc.names.lookup x = some .cell
  nofree : ∀ y ∈ sc.names, y.2 ≠ .free

theorem bindL_out {kindOf : Str → Option NameKind} {x : Str} : ∀ {binds : List (Str × Value)} {m : Str → Option Value}, (∀ v, (x, v) ∉ binds) → bindL kindOf binds m x = m x
  | [], _, _ => rfl
  | (n, v) :: r, m, h => by
    unfold bindL
    rw [bindL_out fun w hw => h w (List.mem_cons_of_mem _ hw)]
    split
    · have : x ≠ n := by rintro rfl; exact h v List.mem_cons_self
      simp [this]
    · rfl
theorem bindC_out {kindOf : Str → Option NameKind} {x : Str} : ∀ {binds : List (Str × Value)} {m : Str → Option Value}, (∀ v, (x, v) ∉ binds) → bindC kindOf binds m x = m x
  | [], _, _ => rfl
  | (n, v) :: r, m, h => by
    unfold bindC
    rw [bindC_out fun w hw => h w (List.mem_cons_of_mem _ hw)]
    split
    · rfl
    · have : x ≠ n := by rintro rfl; exact h v List.mem_cons_self
      simp [this]
theorem bindL_get {kindOf : Str → Option NameKind} {x : Str} {v : Value} : ∀ {P : List Str} {vs : List Value} {i : Nat} {m : Str → Option Value}, P.Nodup → P[i]? = some x → vs[i]? = some v → kindOf x = some .local →
    bindL kindOf (P.zip vs) m x = some v
  | [], _, _, _, _, h, _, _ => by simp at h
  | _ :: _, [], _, _, _, _, h, _ => by simp at h
  | p :: P, w :: vs, 0, m, nd, h1, h2, hk => by
    simp at h1 h2; subst h1; subst h2
    show bindL kindOf ((p, w) :: P.zip vs) m p = _
    unfold bindL
    rw [bindL_out fun v hv => (List.nodup_cons.mp nd).1 (List.of_mem_zip hv).1, if_pos hk]
    simp
  | p :: P, w :: vs, i + 1, m, nd, h1, h2, hk => by
    show bindL kindOf ((p, w) :: P.zip vs) m x = _
    unfold bindL
    exact bindL_get (i := i) (List.nodup_cons.mp nd).2 (by simpa using h1) (by simpa using h2) hk
theorem bindC_get {kindOf : Str → Option NameKind} {x : Str} {v : Value} : ∀ {P : List Str} {vs : List Value} {i : Nat} {m : Str → Option Value}, P.Nodup → P[i]? = some x → vs[i]? = some v → kindOf x ≠ some .local →
    bindC kindOf (P.zip vs) m x = some v
  | [], _, _, _, _, h, _, _ => by simp at h
  | _ :: _, [], _, _, _, _, h, _ => by simp at h
  | p :: P, w :: vs, 0, m, nd, h1, h2, hk => by
    simp at h1 h2; subst h1; subst h2
    show bindC kindOf ((p, w) :: P.zip vs) m p = _
    unfold bindC
    rw [bindC_out fun v hv => (List.nodup_cons.mp nd).1 (List.of_mem_zip hv).1, if_neg hk]
    simp
  | p :: P, w :: vs, i + 1, m, nd, h1, h2, hk => by
    show bindC kindOf ((p, w) :: P.zip vs) m x = _
    unfold bindC
    exact bindC_get (i := i) (List.nodup_cons.mp nd).2 (by simpa using h1) (by simpa using h2) hk

/-- the names' values at the entry -/
def start (N : List Str) (vs : List V) : St := vs.map some ++ List.replicate (N.length - vs.length) none

/-- the context of a def's body, at its entry; an exception leaves the frame, then lies as CX says -/
def cxOf (CX : CXT) (P : Program) (w : World) (K : PySem.W.Frag) (mg : Str → Option Value) (base : Heap) (N : List Str) (qual : Str) (scope : Scope) (f : Addr) (cd : Value) (A : Around) (outer : List Env) (s : Shared) (H : Hp) (E : XK) : Cx where
  prog := P
  w := w
  K := K
  mg := mg
  base := base
  A := A.deeper (envOfC qual scope s.heap.objs.size f cd)
  N := N
  s_0 := s
  H_0 := H
  env := envOfC qual scope s.heap.objs.size f cd
  outer := outer
  stack := envOfC qual scope s.heap.objs.size f cd :: outer
  ex := []
  calm := true
  fn := fun _ => true
  pn := []
  xe := fun e s' => wpAny (model P w) (A.deeper (envOfC qual scope s.heap.objs.size f cd)) (leaving (envOfC qual scope s.heap.objs.size f cd) e) (fun _ s'' => CX outer H s E e s'') (fun e' s'' => CX outer H s E e' s'') s'

theorem cell_has {sc : Scope} {n : Nat} {x : Str} (h : sc.names.lookup x = some .cell) : ∃ c, (cellsFrom n sc.names []).lookup x = some c := by
  have q := PySem.W.cellsFrom_some sc.names n [] (.inl h)
  exact Option.isSome_iff_exists.mp q

theorem inv_start {CX : CXT} {P : Program} {w : World} {K : PySem.W.Frag} {mg : Str → Option Value} {base : Heap} {N ps : List Str} {qual : Str} {scope : Scope} {f : Addr} {cd : Value} {A : Around} {outer : List Env} {s s1 : Shared} {H : Hp} {E : XK} {us : List Value} {vs : List V}
    (S : FnScope N ps scope) (hd : A.handled = none) (e0 : Env0 P w K mg base A outer s H) (hl : vs.length = ps.length) (r : Vals vs us)
    (x : InCallC s s.heap.objs.size (bindL (envOfC qual scope s.heap.objs.size f cd).kindOf (ps.zip us) fun _ => none) (cellsFrom (s.heap.objs.size + 1) scope.names []) (bindC (envOfC qual scope s.heap.objs.size f cd).kindOf (ps.zip us) fun _ => none) s1) :
    Inv (cxOf CX P w K mg base N qual scope f cd A outer s H E) [] (start N vs) H s1 := by
  have hpl : ps.length ≤ N.length := by have := congrArg List.length S.pre; rw [List.length_take] at this; omega
  obtain ⟨h1, tk, rfl, hk⟩ := x.done
  have noA : ∀ b : Addr, b ∉ (cxOf CX P w K mg base N qual scope f cd A outer s H E).ex := fun b z => absurd (show b ∈ ([] : List Addr) from z) (by simp)
  refine ⟨⟨e0.mod, S.kind, rfl, rfl, Nat.le_refl _, fun y z c h1 h2 => ?_, fun y hy => ?_, fun y c _ h => ?_, fun _ => hd, Around.frames_deeper e0.frames, .inr ⟨rfl, rfl⟩, fun b z => absurd z (noA b), e0.bs, e0.bsz, fun b _ _ => noA b, fun b z => absurd z (noA b), e0.funs, e0.frf⟩,
    rfl, e0.bare, Un.kept hk, ⟨_, x.toInCall.ns, fun i y v h1 h2 h3 => ?_⟩, fun y c h => ⟨_, x.cell y c h⟩, e0.hok.fresh (Nat.le_refl _), fun y c h => ?_, fun p hp => absurd (show p ∈ ([] : List (Addr × Obj)) from hp) (by simp), e0.hok.kept hk, ?_⟩
  · exact name_of_addr x.apart (PySem.mem_of_lookup h1) (PySem.mem_of_lookup h2)
  · have hy : scope.names.lookup y = some .cell ∨ scope.names.lookup y = some .free := hy
    rcases hy with hy | hy
    · exact cell_has hy
    · exact absurd rfl (S.nofree _ (PySem.mem_of_lookup hy))
  · exact Nat.le_of_lt (x.above y c (PySem.mem_of_lookup h))
  · have hi : i < vs.length := by
      unfold start at h2
      by_cases hi : i < vs.length
      · exact hi
      · rw [List.getElem?_append_right (by simpa using hi)] at h2
        rw [List.getElem?_replicate] at h2
        split at h2 <;> cases h2
    have ha : vs[i]? = some v := by
      unfold start at h2
      rw [List.getElem?_append_left (by simpa using hi), List.getElem?_map] at h2
      cases e : vs[i]? with
      | none => rw [e] at h2; cases h2
      | some a => rw [e] at h2; cases h2; rfl
    obtain ⟨u, hu, rv⟩ := r.get ha
    have hp : ps[i]? = some y := by
      rw [← S.pre, List.getElem?_take_of_lt (by omega)]; exact h1
    have ndP : ps.Nodup := by rw [← S.pre]; exact S.nd.sublist (List.take_sublist _ _)
    refine ⟨u, rv, ?_⟩
    rcases S.par y (List.mem_of_getElem? hp) with k | k
    · exact .inl ⟨k, bindL_get ndP hp hu k⟩
    · obtain ⟨c, e⟩ := cell_has (n := s.heap.objs.size + 1) k
      refine .inr ⟨.inl k, c, e, ?_⟩
      have q := x.cell y c e
      rw [bindC_get ndP hp hu (by show scope.names.lookup y ≠ _; rw [k]; decide)] at q
      exact q
  · exact e0.hok.fresh (Nat.le_of_lt (x.above y c (PySem.mem_of_lookup h)))
  · unfold start
    show _ = N.length
    rw [List.length_append, List.length_map, List.length_replicate]
    omega

/-- THE RULE: a def (or a method) of the text, by its body. The body's reading t is chosen for each entry; it is run at the parameters' values -/
theorem fn_of {CX : CXT} {P : Program} {w : World} {K : PySem.W.Frag} {mg : Str → Option Value} {base : Heap} {k : Nat} {f : Addr} {name qual : Str} {params : Arguments} {body : List Stmt} {scope : Scope} {dV kV doc pm cdv ct oc : Value} {an od : Option Addr}
    {osl : Array (Option Value)} {N ps : List Str} {sp : Sp} (lk : K.lookup f = some ⟨oc, od, .func (PySem.W.fnOf name qual params body scope dV kV doc pm an cdv ct), osl⟩) (hcd : PySem.W.codeIn K cdv qual = true) (S : FnScope N ps scope)
    (len : ∀ vs H Q E, sp vs H Q E → vs.length = ps.length)
    (hbody : ∀ (A : Around) (outer : List Env) (s : Shared) (H : Hp) (vs : List V) (Q : VK) (E : XK), Room k (A.deeper (envOfC qual scope s.heap.objs.size f cdv)) → sp vs H Q E →
      ∃ t, PSs (cxOf CX P w K mg base N qual scope f cdv A outer s H E) body t ∧ t { nx := fun _ H' => Q .non H', rt := Q } (start N vs) H) :
    FnOk P w K mg base CX (k + 1) f (PySem.W.fnOf name qual params body scope dV kV doc pm an cdv ct) ps sp := by
  refine ⟨len, fun A outer s H args us vs Q E hr e0 hb r hsp => ?_⟩
  have hl := len _ _ _ _ hsp
  have KX : K.In s.heap := e0.mod.kin.keeps fun b o e => (e0.bs b o e).1
  have lim : s.heap.NoLimit := e0.mod.nolimit.keeps fun b o e => (e0.bs b o e).1
  have hkind : ∀ y ∈ ps.zip us, scope.names.lookup y.1 = some .local ∨ (scope.names.lookup y.1 = some .cell ∧ ((cellsFrom (s.heap.objs.size + 1) scope.names []).lookup y.1).isSome = true) := fun ⟨n, v⟩ hy => by
    rcases S.par n (List.of_mem_zip hy).1 with q | q
    · exact .inl q
    · exact .inr ⟨q, PySem.W.cellsFrom_some _ _ _ (.inl q)⟩
  refine codeAny_call_function hr.depth (KX _ _ lk) rfl S.co S.gen rfl (PySem.W.codeRec_of KX hcd) (hb _ _ _ _ ?_)
  refine wpAny_newFunctionEnv_cells S.kind hkind fun env he s1 x => ?_
  subst he
  refine ⟨lim.keeps x.toInCall.keep, codeAny_func ?_⟩
  obtain ⟨t, ht, hq⟩ := hbody A outer s H vs Q E (hr.deeper _) hsp
  have I : Inv (cxOf CX P w K mg base N qual scope f cdv A outer s H E) [] (start N vs) H s1 := inv_start S hr.hd e0 hl r x
  refine wpAny_mono (ht [] s1 (start N vs) H _ I hq) (fun fl s' hs => ?_) fun e s' hs => hs
  have fin : ∀ {σ' : St} {H' : Hp} {v : V} {u : Value}, Inv (cxOf CX P w K mg base N qual scope f cdv A outer s H E) [] σ' H' s' → RelV v u → Q v H' → CE outer P w H s Q u s' :=
    fun {σ' H' v u} J rv q => ⟨v, H', J.os, J.bare, J.base, J.hok, rv, q⟩
  cases fl with
  | ret u =>
    obtain ⟨v, σ', H', J, rv, q⟩ := hs
    exact fin J rv q
  | next =>
    obtain ⟨σ', H', J, q⟩ := hs
    exact fin (v := V.non) (u := Value.none) J rfl q
  | brk =>
    obtain ⟨_, _, _, q⟩ := hs
    exact False.elim q
  | cont =>
    obtain ⟨_, _, _, q⟩ := hs
    exact False.elim q
end L2

namespace L2
open PySem PySem.Spec PyProof.Rows
section
variable {X : Cx} {x : Str} {p pos : Pos} {e : Expr} {es : List Expr} {t : TA} {id T : String} {r : List V → Hp → VK → Prop}

def tCB (r : List V → Hp → VK → Prop) (t : TA) : TE := fun σ H Q => t σ H fun vs H1 => r vs H1 Q
/-- f(e, ..), f a built-in function -/
theorem pe_callB (hc : CallR X (.builtin id) r) (hg : Gl X x) (hm : X.mg x = none) (hv : bootBuiltins x = some (.builtin id)) (ha : PA X (e :: es) t) (hn : x ≠ "__name__" := by decide) (hdb : (x == ("__debug__" : Str)) = false := by decide)
    (he : starEach (e :: es) X.env = (false, eval e X.env) :: starEach es X.env := by rfl) (hpl : (backTo pos (starEach es X.env)).any (·.1) = false := by rfl) : PE X (.Call (.Name x p) (e :: es) [] pos) (tCB r t) := by
  intro pins s σ H Q I h
  refine wpAny_Call_Name_kw (ld_blt I hg hm hv ?_ hn hdb)
  exact PyProof.Rows.callWith_builtin1 (thn (ha pos pins s σ H _ I h) fun us s1 ⟨vs, H1, I1, r1, q1⟩ => hc pins s1 σ H1 vs us Q I1 r1 q1) he hpl
end
end L2

namespace HT
open PySem PyProof.Rows



section
open PySem.SeqAt
open PySem.AutoSeq1 (wpAny_loadPart')
open PySem.MeetsSeq PySem.MeetsSeq2 PySem.MeetsSeq3

end

section
variable {prog : Program} {w : World} {A : Around} {E : Value → Shared → Prop} {s : Shared}



/-! ### t[a:b], not the whole -/

end
end HT

namespace L2
open PySem PySem.Spec PyProof.Rows

/-! ### the parts of a slice -/


section
variable {X : Cx} {e : Expr} {te : TE} {lo hi : Option Expr} {tl th : TO} {pos p2 : Pos}




/-! ### t < u, t + u -/
end
end L2

namespace L2
open PySem PySem.Spec PyProof.Rows

/-! ### places -/
/-- the place that an index of any sign means -/
def ixN (n : Nat) (i : Int) : Option Nat := if 0 ≤ i then (if i < n then some i.toNat else none) else if -(n : Int) ≤ i then some (i + n).toNat else none
def atI {α : Type} (xs : List α) (i : Int) : Option α := (ixN xs.length i).bind fun j => xs[j]?
theorem ixN_seq {n : Nat} {i : Int} {j : Nat} (h : ixN n i = some j) : seqIndex? i n = some j ∧ j < n ∧ -(n : Int) ≤ i ∧ i < n := by
  unfold ixN at h
  by_cases h0 : 0 ≤ i
  · rw [if_pos h0] at h
    by_cases h1 : i < n
    · rw [if_pos h1] at h
      have e : i.toNat = j := Option.some.inj h
      exact ⟨by rw [seqIndex_of h0 h1, e], by omega, by omega, h1⟩
    · rw [if_neg h1] at h; cases h
  · rw [if_neg h0] at h
    by_cases h1 : -(n : Int) ≤ i
    · rw [if_pos h1] at h
      have e : (i + n).toNat = j := Option.some.inj h
      exact ⟨by rw [seqIndex_neg (by omega) h1, e], by omega, h1, by omega⟩
    · rw [if_neg h1] at h; cases h
theorem atI_get {α : Type} {xs : List α} {i : Int} {v : α} (h : atI xs i = some v) : ∃ j, seqIndex? i xs.length = some j ∧ xs[j]? = some v ∧ j < xs.length ∧ -(xs.length : Int) ≤ i ∧ i < xs.length := by
  unfold atI at h
  cases e : ixN xs.length i with
  | none => rw [e] at h; cases h
  | some j =>
    rw [e] at h
    obtain ⟨h1, h2, h3, h4⟩ := ixN_seq e
    exact ⟨j, h1, h, h2, h3, h4⟩
theorem atI_nat {α : Type} {xs : List α} {j : Nat} {v : α} (h : xs[j]? = some v) : atI xs (j : Int) = some v := by
  have hj : j < xs.length := (List.getElem?_eq_some_iff.mp h).1
  have e : ixN xs.length (j : Int) = some j := by
    unfold ixN
    rw [if_pos (by omega), if_pos (by omega)]; simp
  unfold atI; rw [e]; exact h
theorem atI_last {α : Type} (xs : List α) (v : α) : atI (xs ++ [v]) (-1) = some v := by
  have hl : (xs ++ [v]).length = xs.length + 1 := by simp
  have e : ixN (xs ++ [v]).length (-1) = some xs.length := by
    unfold ixN
    rw [hl, if_neg (by decide), if_pos (by omega)]
    congr 1
    omega
  unfold atI
  rw [e]
  show (xs ++ [v])[xs.length]? = some v
  simp

/-! ### what may be subscripted -/
/-- what stands as an index of a plain subscript -/
def PlainIx (b : Expr) : Prop := ∀ o i, subscripted b false o i = operate [o, i] (getItem o i)
/-- a subscript by values -/
def IxR (X : Cx) (r : R2) : Prop :=
  ∀ (value slice : Expr) (pins : List (Addr × Obj)) (s : Shared) (σ : St) (H : Hp) (x y : V) (v u : Value) (Q : VK), Inv X pins σ H s → RelV x v → RelV y u → r x y H Q →
    subscripted slice false v u = operate [v, u] (getItem v u) → wpAny (model X.prog X.w) X.A (subscriptTail value slice v u) (EP X pins σ Q) X.xe s
/-- a call of a builtin's method by values: the receiver, the arguments -/
def MtR (X : Cx) (id : String) (r : V → List V → Hp → VK → Prop) : Prop :=
  ∀ (pins : List (Addr × Obj)) (s : Shared) (σ : St) (H : Hp) (x : V) (xs : List V) (v : Value) (us : List Value) (Q : VK), Inv X pins σ H s → RelV x v → Vals xs us → r x xs H Q →
    wpAny (model X.prog X.w) X.A (call (.builtin id) (v :: us)) (EP X pins σ Q) X.xe s
section
variable {X : Cx} {a b : Expr} {ta tb : TE} {pos : Pos}
/-- a[b] -/
theorem pe_ix {r : R2} (hr : IxR X r) (ha : PE X a ta) (hb : PE X b tb) (hs : PlainIx b) : PE X (.Subscript a b pos) (tOp r ta tb) := by
  intro pins s σ H Q I h
  exact Subscript_ (binT ha hb I h fun v u s2 x y H2 I2 rx ry q => hr a b pins s2 σ H2 x y v u Q I2 rx ry q (hs _ _))

def rIxL (K : PySem.W.Frag) : R2 := fun x y H Q => ∃ p xs i v, x = .ref p ∧ y = .int i ∧ SqL K H p xs ∧ atI xs i = some v ∧ Q v H
def rIxT (K : PySem.W.Frag) : R2 := fun x y H Q => ∃ p xs i v, x = .ref p ∧ y = .int i ∧ SqT K H p xs ∧ atI xs i = some v ∧ Q v H
theorem ix_list : IxR X (rIxL X.K) := by
  intro value slice pins s σ H x y v u Q I rx ry h hs
  obtain ⟨p, xs, i, z, rfl, rfl, hq, he, q⟩ := h
  cases rx
  obtain ⟨t, rfl⟩ := ry
  obtain ⟨its, r, pl, hz⟩ := I.list hq
  obtain ⟨j, h1, h2, h3, h4, h5⟩ := atI_get he
  obtain ⟨w, ew, rw'⟩ := r.get h2
  have hl := r.length
  have hn := line63
  have fin : EP X pins σ Q w s := ⟨z, H, I, rw', q⟩
  by_cases h0 : 0 ≤ i
  · have hj : i.toNat = j := by
      rw [seqIndex_of h0 h5] at h1
      exact Option.some.inj h1
    exact item_listR pl.isList h0 (by omega) (by rw [hj]; simpa using ew) fin hs
  · have hj : (i + (its.toArray.size : Int)).toNat = j := by
      rw [seqIndex_neg (by omega) h4] at h1
      rw [List.size_toArray, ← hl]
      exact Option.some.inj h1
    exact subscriptTail_builtinR (x := w) pl.isList.typeIs slot_list_getitem.lookup
      (wpAny_getItem_list_neg (Q := fun r s' => r = w ∧ EP X pins σ Q r s') pl.isList (by omega) (by rw [List.size_toArray] <;> omega) (by omega) (by rw [hj]; simpa using ew) ⟨rfl, fin⟩) hs
theorem ix_tup : IxR X (rIxT X.K) := by
  intro value slice pins s σ H x y v u Q I rx ry h hs
  obtain ⟨p, xs, i, z, rfl, rfl, hq, he, q⟩ := h
  cases rx
  obtain ⟨t, rfl⟩ := ry
  obtain ⟨its, r, pl, hz⟩ := I.tuple hq
  obtain ⟨j, h1, h2, h3, h4, h5⟩ := atI_get he
  obtain ⟨w, ew, rw'⟩ := r.get h2
  have hl := r.length
  have hn := line63
  have fin : EP X pins σ Q w s := ⟨z, H, I, rw', q⟩
  exact subscriptTail_builtinR (x := w) pl.typeIs slot_tuple_getitem.lookup
    (getItem_tuple (j := j) (Q := fun r s' => r = w ∧ EP X pins σ Q r s') pl (by omega) (by omega) (by rw [List.size_toArray, ← hl]; exact h1) (by simpa using ew) ⟨rfl, fin⟩) hs

/-! ### xs[i] = v, any sign -/
/-- the list's object behind a store -/
theorem mapSeq_set (its : List Value) (n j : Nat) (u : Value) : Obj.mapSeq (·.setIfInBounds j u) { cls := .type "list", data := .seq its.toArray n } = { cls := .type "list", data := .seq (its.set j u).toArray n } := by
  simp [Obj.mapSeq]
theorem Inv.lst {pins : List (Addr × Obj)} {σ : St} {H : Hp} {s : Shared} {p : Addr} {xs : List V} (I : Inv X pins σ H s) (h : H p = some (.lst xs)) :
    ∃ (its : List Value) (n : Nat), Vals xs its ∧ s.heap.get? p = some { cls := .type "list", data := .seq its.toArray n } ∧ xs.length ≤ sizeLine := by
  obtain ⟨z, its, n, r, e⟩ := I.hok p _ h
  exact ⟨its, n, r, e, z⟩
/-- the list at p is written by an update of its object -/
theorem Inv.lstUpd {pins : List (Addr × Obj)} {σ : St} {H : Hp} {s : Shared} {p : Addr} {xs ys : List V} {its its' : List Value} {n n' : Nat} {f : Obj → Obj} (I : Inv X pins σ H s) (h : H p = some (.lst xs))
    (ho : s.heap.get? p = some { cls := .type "list", data := .seq its.toArray n }) (hf : f { cls := .type "list", data := .seq its.toArray n } = { cls := .type "list", data := .seq its'.toArray n' }) (r : Vals ys its') (hz : ys.length ≤ sizeLine) (t : Nat) :
    Inv X pins σ (upd H p (.lst ys)) { s with heap := s.heap.update p f, toks := t } := by
  have e : (s.heap.update p f).get? p = some { cls := .type "list", data := .seq its'.toArray n' } := by
    rw [Heap.get?_update_self f ho (by rw [hf] <;> rfl), hf]
  refine I.write (x := p) (e := p) (by rw [h]; trivial) (.inl rfl) (fun b u hb q => (Heap.get?_update_other _ _ (Ne.symm hb)).trans q) ⟨_, e⟩ ?_
  exact ⟨hz, its', n', r, e⟩
def rSetL : V → V → V → Hp → (Hp → Prop) → Prop := fun o i v H Q => ∃ p xs k j, o = .ref p ∧ i = .int k ∧ H p = some (.lst xs) ∧ ixN xs.length k = some j ∧ Q (upd H p (.lst (xs.set j v)))
theorem set_list : PSet X rSetL := by
  intro pins s σ H o i v ov iv u Q I ro ri rv h
  obtain ⟨p, xs, k, j, rfl, rfl, hp, hj, q⟩ := h
  cases ro
  obtain ⟨t, rfl⟩ := ri
  obtain ⟨its, n, r, ho, hz⟩ := I.lst hp
  obtain ⟨h1, h2, h3, h4⟩ := ixN_seq hj
  have hl := r.length
  have hn := line63
  have I' : Inv X pins σ (upd H p (.lst (xs.set j v))) { s with heap := s.heap.update p (Obj.mapSeq (·.setIfInBounds j u)) } :=
    I.lstUpd hp ho (mapSeq_set its n j u) (r.set rv j) (by rw [List.length_set]; exact hz) s.toks
  by_cases h0 : 0 ≤ k
  · have hk : k.toNat = j := by
      rw [seqIndex_of h0 h4] at h1
      exact Option.some.inj h1
    exact PySem.W.ki_setAt ho h0 (by omega) (by rw [List.size_toArray, ← hl]; exact h4) (by rw [hk]; exact ⟨_, I', q⟩)
  · have hk : (k + (its.toArray.size : Int)).toNat = j := by
      rw [seqIndex_neg (by omega) h3] at h1
      rw [List.size_toArray, ← hl]
      exact Option.some.inj h1
    exact PySem.W.ki_setBack ho (by omega) (by rw [List.size_toArray, ← hl]; exact h3) (by omega) (by rw [hk]; exact ⟨_, I', q⟩)

/-! ### slices -/

/-! ### in, not in: flat items -/
def flatV : V → Bool
  | .non => true
  | .bl _ => true
  | .int _ => true
  | .str _ => true
  | _ => false
/-- == of flat values -/
def eqV : V → V → Bool
  | .non, .non => true
  | .bl a, .bl b => a == b
  | .bl a, .int b => (if a then 1 else 0) == b
  | .int a, .bl b => a == (if b then 1 else 0)
  | .int a, .int b => a == b
  | .str a, .str b => a == b
  | _, _ => false
theorem eqAt_V {A : Around} {s : Shared} {y x : V} {u v : Value} (ry : RelV y u) (rx : RelV x v) (fy : flatV y = true) (fx : flatV x = true) : SeqAt.EqAt A s u v (eqV y x) := by
  cases y with
  | non =>
    cases ry
    cases x with
    | non => cases rx; exact SeqAt.EqAt.same _
    | bl b => cases rx; exact SeqAt.EqAt.none_bool b
    | int b => obtain ⟨t, rfl⟩ := rx; exact SeqAt.EqAt.none_int b t
    | str b => obtain ⟨t, rfl⟩ := rx; exact SeqAt.EqAt.none_str b t
    | _ => exact absurd (show false = true from fx) Bool.false_ne_true
  | bl a =>
    cases ry
    cases x with
    | non => cases rx; exact SeqAt.EqAt.bool_none a
    | bl b => cases rx; exact SeqAt.EqAt.bool_bool a b
    | int b => obtain ⟨t, rfl⟩ := rx; exact SeqAt.EqAt.bool_int a b t
    | str b => obtain ⟨t, rfl⟩ := rx; exact SeqAt.EqAt.bool_str a b t
    | _ => exact absurd (show false = true from fx) Bool.false_ne_true
  | int a =>
    obtain ⟨t', rfl⟩ := ry
    cases x with
    | non => cases rx; exact SeqAt.EqAt.int_none a t'
    | bl b => cases rx; exact SeqAt.EqAt.int_bool a t' b
    | int b => obtain ⟨t, rfl⟩ := rx; exact SeqAt.EqAt.int_int a t' b t
    | str b => obtain ⟨t, rfl⟩ := rx; exact SeqAt.EqAt.int_str a t' b t
    | _ => exact absurd (show false = true from fx) Bool.false_ne_true
  | str a =>
    obtain ⟨t', rfl⟩ := ry
    cases x with
    | non => cases rx; exact SeqAt.EqAt.str_none a t'
    | bl b => cases rx; exact SeqAt.EqAt.str_bool a t' b
    | int b => obtain ⟨t, rfl⟩ := rx; exact SeqAt.EqAt.str_int a t' b t
    | str b => obtain ⟨t, rfl⟩ := rx; exact SeqAt.EqAt.str_str a t' b t
    | _ => exact absurd (show false = true from fx) Bool.false_ne_true
  | _ => exact absurd (show false = true from fy) Bool.false_ne_true
/-- the items' answers, read off the values (a value's own answer does not lean on its token) -/
def eqU (x : V) (u : Value) : Bool := match u with
  | .none => eqV .non x
  | .bool b => eqV (.bl b) x
  | .int i _ => eqV (.int i) x
  | .str z _ => eqV (.str z) x
  | _ => false
theorem eqU_of {x y : V} {u : Value} (r : RelV y u) (f : flatV y = true) : eqU x u = eqV y x := by
  cases y with
  | non => cases r; rfl
  | bl b => cases r; rfl
  | int i => obtain ⟨t, rfl⟩ := r; rfl
  | str z => obtain ⟨t, rfl⟩ := r; rfl
  | _ => exact absurd (show false = true from f) Bool.false_ne_true
theorem any_eqU {x : V} : ∀ {xs : List V} {us : List Value}, Vals xs us → xs.all flatV = true → us.any (eqU x) = xs.any fun y => eqV y x
  | _, _, .nil, _ => rfl
  | y :: xs, u :: us, .cons r t, f => by
    rw [List.all_cons, Bool.and_eq_true] at f
    rw [List.any_cons, List.any_cons, eqU_of r f.1, any_eqU t f.2]
theorem mem_eqAt {A : Around} {s : Shared} {x : V} {v : Value} (rx : RelV x v) (fx : flatV x = true) : ∀ {xs : List V} {us : List Value}, Vals xs us → xs.all flatV = true → ∀ u ∈ us, SeqAt.EqAt A s u v (eqU x u)
  | _, _, .nil, _ => fun u hu => by cases hu
  | y :: xs, u :: us, .cons r t, f => fun u' hu => by
    rw [List.all_cons, Bool.and_eq_true] at f
    rcases List.mem_cons.mp hu with rfl | hu
    · rw [eqU_of r f.1]; exact eqAt_V r rx f.1 fx
    · exact mem_eqAt rx fx t f.2 u' hu
def inV (x : V) (xs : List V) : Bool := xs.any fun y => eqV y x
/-- x in a list or tuple of flat items -/
def rIn (K : PySem.W.Frag) (neg : Bool) : R2 := fun x y H Q => ∃ p xs, y = .ref p ∧ (SqL K H p xs ∨ SqT K H p xs) ∧ flatV x = true ∧ xs.all flatV = true ∧ Q (.bl (if neg then !inV x xs else inV x xs)) H
theorem op_in_seq : OpR X (compareOp .In) (rIn X.K false) := by
  intro pins s σ H x y v u Q I rx ry h
  obtain ⟨p, xs, rfl, hq, fx, fs, q⟩ := h
  cases ry
  rcases hq with hq | hq
  · obtain ⟨its, r, pl, hz⟩ := I.list hq
    refine SeqAt.in_listAt (eqU x) pl.isList (fun w hw => mem_eqAt rx fx r fs w (by simpa using hw)) ⟨.bl _, H, I, rfl, ?_⟩
    rw [show its.toArray.any (eqU x) = its.any (eqU x) by simp, any_eqU r fs]
    exact q
  · obtain ⟨its, r, pl, hz⟩ := I.tuple hq
    refine SeqAt.in_tupleAt (eqU x) pl (fun w hw => mem_eqAt rx fx r fs w (by simpa using hw)) ⟨.bl _, H, I, rfl, ?_⟩
    rw [show its.toArray.any (eqU x) = its.any (eqU x) by simp, any_eqU r fs]
    exact q

/-! ### len, list(x), tuple(x) of any list or tuple that is read -/
theorem call_len_seq : CallR X (.builtin "len") (fun xs H Q => ∃ p ys, xs = [.ref p] ∧ (SqL X.K H p ys ∨ SqT X.K H p ys) ∧ Q (.int ys.length) H) := by
  intro pins s σ H xs us Q I r h
  obtain ⟨p, ys, rfl, hq, q⟩ := h
  obtain ⟨u, rfl, rx⟩ := vals1 r
  cases rx
  have hn := line63
  rcases hq with hq | hq
  · obtain ⟨its, r', pl, hz⟩ := I.list hq
    have hlen := r'.length
    exact Calls.call_len_list pl.isList (by simp only [List.size_toArray] <;> omega) ⟨.int ys.length, H, I.tok _, ⟨s.toks + 1, by rw [List.size_toArray, hlen]⟩, q⟩
  · obtain ⟨its, r', pl, hz⟩ := I.tuple hq
    have hlen := r'.length
    exact len_tuple pl (by simp only [List.size_toArray] <;> omega) ⟨.int ys.length, H, I.tok _, ⟨s.toks + 1, by rw [List.size_toArray, hlen]⟩, q⟩

/-! ### the call of a builtin's method: o.m(..) -/
/-- the value is of that builtin type -/
def tyV (K : PySem.W.Frag) (T : String) (x : V) (H : Hp) : Prop := match x with
  | .str _ => T = "str"
  | .int _ => T = "int"
  | .ref p => (T = "list" ∧ ∃ xs, SqL K H p xs) ∨ (T = "tuple" ∧ ∃ o, K.lookup p = some o ∧ o.cls = .type "tuple" ∧ o.dict = none) ∨
      (T = "dict" ∧ ((∃ kvs, H p = some (.dK kvs)) ∨ ∃ kvs, H p = some (.dT kvs))) ∨ (T = "set" ∧ ∃ S n, H p = some (.set S n))
  | _ => False
theorem tyV_is {pins : List (Addr × Obj)} {σ : St} {H : Hp} {s : Shared} {T : String} {x : V} {v : Value} (I : Inv X pins σ H s) (r : RelV x v) (ty : tyV X.K T x H) :
    s.TypeIs v T ∧ ∀ a, v = .ref a → ∃ ob, s.heap.get? a = some ob ∧ ob.dict = none := by
  cases x with
  | str z =>
    obtain ⟨t, rfl⟩ := r
    cases (show T = "str" from ty)
    exact ⟨typeIs_str s z t, fun _ e => nomatch e⟩
  | int i =>
    obtain ⟨t, rfl⟩ := r
    cases (show T = "int" from ty)
    exact ⟨typeIs_int s i t, fun _ e => nomatch e⟩
  | ref p =>
    cases r
    rcases ty with ⟨rfl, xs, hq⟩ | ⟨rfl, o, hk, hc, hd⟩ | ⟨rfl, hk⟩ | ⟨rfl, S, n, hk⟩
    · obtain ⟨its, _, pl, _⟩ := I.list hq
      refine ⟨pl.isList.typeIs, fun a e => ?_⟩
      cases e
      obtain ⟨o, n, e, c, hd, _⟩ := pl
      exact ⟨o, e, hd⟩
    · refine ⟨⟨o, I.kIn p o hk, hc⟩, fun a e => ?_⟩
      cases e
      exact ⟨o, I.kIn _ o hk, hd⟩
    · have z : ∃ o, s.heap.get? p = some o ∧ o.ExactDict := by
        rcases hk with ⟨kvs, hk⟩ | ⟨kvs, hk⟩
        · obtain ⟨_, _, _, _, o, _, _, e, ex, _⟩ := I.hok p _ hk
          exact ⟨o, e, ex⟩
        · obtain ⟨_, _, _, _, o, _, _, e, ex, _⟩ := I.hok p _ hk
          exact ⟨o, e, ex⟩
      obtain ⟨o, e, ex⟩ := z
      refine ⟨⟨o, e, ex.1⟩, fun a e2 => ?_⟩
      cases e2
      exact ⟨o, e, ex.2.1⟩
    · obtain ⟨o, _, _, _, e, ex, _⟩ := I.hok p _ hk
      refine ⟨⟨o, e, ex.1⟩, fun a e2 => ?_⟩
      cases e2
      exact ⟨o, e, ex.2.1⟩
  | _ => exact False.elim ty
def tBM (K : PySem.W.Frag) (T : String) (r : V → List V → Hp → VK → Prop) (to : TE) (t : TA) : TE := fun σ H Q => to σ H fun x H1 => tyV K T x H1 ∧ t σ H1 fun xs H2 => r x xs H2 Q
variable {o e : Expr} {es : List Expr} {to : TE} {t : TA} {name : Str} {apos cpos : Pos} {T id : String} {r : V → List V → Hp → VK → Prop}
theorem pe_bm (pa : PlainAttrs T) (slot : Slot T name id) (hty : typeOf (.builtin id) = pure (.type "method_descriptor")) (hm : MtR X id r) (ho : PE X o to) (ha : PA X (e :: es) t)
    (hbase : attributeBase o name X.env (eval o X.env) = eval o X.env := by rfl)
    (hfew : ((backTo cpos (starEach (e :: es) X.env)).all (fun x => !x.1) && (backToKw cpos (keywordEach [] X.env)).all (fun x => x.1.isSome)
      && decide ((e :: es).length + ([] : List Keyword).length + (if ([] : List Keyword).isEmpty then 0 else 1) < 30)) = true := by rfl)
    (hline : (apos.endLine == cpos.line) = true := by rfl) (hs : starEach (e :: es) X.env = (false, eval e X.env) :: starEach es X.env := by rfl) (hplain : (backTo cpos (starEach es X.env)).any (·.1) = false := by rfl) :
    PE X (.Call (.Attribute o name apos) (e :: es) [] cpos) (tBM X.K T r to t) := by
  intro pins s σ H Q I h
  refine wpAny_Call_method_late hbase hfew hline rfl (thn (ho pins s σ H _ I h) fun v s1 ⟨x, H1, I1, r1, ty, q1⟩ => ?_)
  obtain ⟨h1, h2⟩ := tyV_is I1 r1 ty
  refine ⟨T, id, pa, slot, hty, h1, h2, ?_⟩
  have hA := ha cpos pins s1 σ H1 _ I1 q1
  rw [hs] at hA ⊢
  refine Calls.callWith_builtin (by show (false || (backTo cpos (starEach es X.env)).any (·.1)) = false; rw [hplain] <;> rfl) (Calls.evalArgs_plain ?_)
  exact thn hA fun us s2 ⟨vs, H2, I2, r2, q2⟩ => hm pins s2 σ H2 x vs v us Q I2 r1 r2 q2
/- xs.append(e), list.index on a module's tuple .. are MtR facts of 06m -/
end
end L2

namespace L2
open PySem PySem.Spec PyProof.Rows

def MtM (X : Cx) (id : String) (r : V → List V → Hp → VK → Prop) : Prop :=
  ∀ (pins : List (Addr × Obj)) (s : Shared) (σ : St) (H : Hp) (x : V) (xs : List V) (v : Value) (us : List Value) (Q : VK), Inv X pins σ H s → RelV x v → Vals xs us → r x xs H Q →
    wpAny (model X.prog X.w) X.A (call (.builtin id) (v :: us)) (EP X pins σ Q) X.xe s

/-! ### lists of values -/
theorem Vals.one : ∀ {x : V} {us : List Value}, Vals [x] us → ∃ u, us = [u] ∧ RelV x u
  | _, _, .cons r .nil => ⟨_, rfl, r⟩

section
variable {X : Cx} {pins : List (Addr × Obj)} {σ : St} {H : Hp} {s : Shared} {l b : Addr} {xs ys zs : List V}

/-! ### the two steps: a tracked list is rewritten, a new list is laid -/
theorem Inv.lset {its its' : List Value} {n : Nat} {f : Array Value → Array Value} {t' : Nat} (I : Inv X pins σ H s) (hH : H l = some (.lst xs))
    (e : s.heap.get? l = some { cls := .type "list", data := .seq its.toArray n }) (hf : f its.toArray = its'.toArray) (hv : Vals ys its') (hz : ys.length ≤ sizeLine) :
    Inv X pins σ (upd H l (.lst ys)) { s with heap := s.heap.update l (Obj.mapSeq f), toks := t' } := by
  have q := PySem.IsL.update e f
  rw [hf] at q
  refine I.write (x := l) (e := l) (by rw [hH]; exact trivial) (.inl rfl) (fun b' u hb hu => (Heap.get?_update_other s.heap (Obj.mapSeq f) (Ne.symm hb)).trans hu) ⟨_, q⟩ ?_
  exact ⟨hz, its', _, hv, q⟩
theorem Inv.lstM (I : Inv X pins σ H s) (hH : H l = some (.lst xs)) : xs.length ≤ sizeLine ∧ ∃ (its : List Value) (n : Nat), Vals xs its ∧ xs.length = its.length ∧ s.heap.get? l = some { cls := .type "list", data := .seq its.toArray n } := by
  obtain ⟨z, its, n, r, e⟩ := I.hok l _ hH
  exact ⟨z, its, n, r, r.length, e⟩

theorem notLongL {n : Nat} (h : n ≤ sizeLine) : Builtin.List.listTooLong n = false := by
  unfold Builtin.List.listTooLong
  exact decide_eq_false (by omega)
end

section
variable {X : Cx}

/-! ### methods -/
def rAppend : V → List V → Hp → VK → Prop := fun x vs H Q => ∃ l xs y, x = .ref l ∧ vs = [y] ∧ H l = some (.lst xs) ∧ xs.length < sizeLine ∧ Q .non (upd H l (.lst (xs ++ [y])))
theorem mt_append : MtM X "list.append" rAppend := by
  intro pins s σ H x vs v us Q I rx rv h
  obtain ⟨l, xs, y, rfl, rfl, hH, hz, q⟩ := h
  cases rx
  obtain ⟨u, rfl, ru⟩ := rv.one
  obtain ⟨z, its, n, r, hl, e⟩ := I.lstM hH
  refine call_meets F.slot_list_append ⟨_, e, rfl⟩ F.entry_list_append (F.args_list_append_2 _ _) (PySem.list_append l its.toArray n u (by rw [List.size_toArray]; omega)) ⟨e, ?_⟩
  refine ⟨.non, _, I.lset (its' := its ++ [u]) hH e (by simp) (r.append (.cons ru .nil)) ?_, rfl, q⟩
  rw [List.length_append, List.length_singleton]
  omega

def rExtend : V → List V → Hp → VK → Prop := fun x vs H Q => ∃ l b xs zs, x = .ref l ∧ vs = [.ref b] ∧ H l = some (.lst xs) ∧ H b = some (.lst zs) ∧ xs.length + zs.length ≤ sizeLine ∧ Q .non (upd H l (.lst (xs ++ zs)))
theorem mt_extend : MtM X "list.extend" rExtend := by
  intro pins s σ H x vs v us Q I rx rv h
  obtain ⟨l, b, xs, zs, rfl, rfl, hH, hB, hz, q⟩ := h
  cases rx
  obtain ⟨u, rfl, ru⟩ := rv.one
  cases ru
  obtain ⟨z, its, n, r, hl, e⟩ := I.lstM hH
  obtain ⟨z2, its2, n2, r2, hl2, e2⟩ := I.lstM hB
  have hsz : its.toArray.size + its2.toArray.size ≤ sizeLine := by rw [List.size_toArray, List.size_toArray]; omega
  have hlong : ¬ (!its.toArray.isEmpty && Builtin.List.listTooLong (its.toArray.size + its2.toArray.size)) = true := by
    rw [notLongL hsz, Bool.and_false]
    exact Bool.false_ne_true
  refine call_meets F.slot_list_extend ⟨_, e, rfl⟩ F.entry_list_extend (F.args_list_extend_2 _ _)
    (AutoSeq1.list_extend_list_list_0 l its.toArray n b its2.toArray n2 hlong (by rw [List.size_toArray]; omega) (by omega)) ⟨e, e2, ?_⟩
  refine ⟨.non, _, I.lset (its' := its ++ its2) hH e (by simp) (r.append r2) ?_, rfl, q⟩
  rw [List.length_append]
  omega





/-! ### list + list, list += list, list * int -/

/-! ### del xs[i] -/
end

/-! ### xs[a:b] = ys -/
section
variable {prog : Program} {w : World} {A : Around} {E : Value → Shared → Prop} {s : Shared}
end

section
variable {X : Cx}
end
end L2

namespace L2
open PySem PySem.Spec PyProof.Rows

theorem Vals.ints : ∀ {ns : List Int} {us : List Value}, Vals (ns.map V.int) us → IntsAre us ns
  | [], us, h => by
    rw [List.map_nil] at h
    cases h
    exact IntsAre.nil
  | n :: ns, us, h => by
    rw [List.map_cons] at h
    cases h with
    | cons r t =>
      obtain ⟨k, rfl⟩ := r
      exact IntsAre.cons n k (Vals.ints t)
theorem Vals.bls : ∀ {bs : List Bool} {us : List Value}, Vals (bs.map V.bl) us → us = bs.map Value.bool
  | [], us, h => by
    rw [List.map_nil] at h
    cases h
    rfl
  | b :: bs, us, h => by
    rw [List.map_cons] at h
    cases h with
    | cons r t =>
      cases r
      rw [Vals.bls t, List.map_cons]
theorem Vals.ref1 {a : Addr} {us : List Value} (r : Vals [V.ref a] us) : us = [Value.ref a] := by
  cases r with
  | cons r t =>
    cases t
    cases r
    rfl

/-! ### the library's walks over a list of ints, kept objects alone -/
section
variable {prog : Program} {w : World} {A : Around} {E : Value → Shared → Prop} {s : Shared} {l : Addr} {its : List Value} {ns : List Int} {Q : Value → Shared → Prop}
theorem sum_raw (hh : A.handled = none) (hl : s.heap.IsList l its.toArray) (hi : IntsAre its ns)
    (h : ∀ h' tk t', (∀ b o, s.heap.get? b = some o → h'.get? b = some o) → Q (.int ns.sum t') { s with heap := h', toks := tk }) : wpAny (model prog w) A (call (.builtin "sum") [.ref l]) Q E s := by
  obtain ⟨xs, e⟩ := hi.allInts.items
  have hn : numsOf (intItems xs).toList = ns := by rw [← e]; exact hi.numsOf
  rw [nums_intItems] at hn
  rw [e] at hl
  refine PySem.sum_intListG hh hl fun h' tk t' hk => ?_
  have := h h' tk t' hk
  rw [preSum_eq, List.take_of_length_le (by simp), hn]; exact this
end

/-! ### the calls, by values (CallR of 03t; MtR of 06l) -/
section
variable {X : Cx}
/-- sum(xs) of a list of ints -/
def rSum (K : PySem.W.Frag) : List V → Hp → VK → Prop := fun vs H Q => ∃ (a : Addr) (ns : List Int), vs = [V.ref a] ∧ SqL K H a (ns.map V.int) ∧ Q (.int ns.sum) H
theorem cr_sum (hc : X.calm = true) : CallR X (.builtin "sum") (rSum X.K) := by
  intro pins s σ H vs us Q I r h
  obtain ⟨a, ns, rfl, hs, q⟩ := h
  obtain ⟨its, rv, hl, _⟩ := I.list hs
  rw [Vals.ref1 r]
  exact sum_raw (I.ok.hd hc) hl.isList rv.ints fun h' tk t' hk => ⟨.int _, H, I.kept hk, ⟨_, rfl⟩, q⟩

/-! sorted, sort (fewer than 64 items: the library's own bound) -/
end

/-! ### list.index, flat items -/
section
variable {X : Cx}
end

/-! ### type(x) of an own instance; is, is not of a module's class -/
section
variable {X : Cx}
end

/-! ### any(xs), all(xs) of a list of bools -/
theorem iter_any {prog : Program} {w : World} {A : Around} {E : Value → Shared → Prop} {s : Shared} {l : Addr} {items : Array Value} {Q : Value → Shared → Prop} (hl : s.heap.IsList l items)
    (h : ∀ s₂ : Shared, s₂ = { s with heap := s.heap.push { cls := .type "list_iterator", data := .fields #[.ref l, .int 0 0] } } →
      (s₂.heap.IsListIter s.heap.objs.size l 0 ∧ s₂.heap.IsList l items) → l ≠ s.heap.objs.size → Q (.ref s.heap.objs.size) s₂) : wpAny (model prog w) A (pyIter (.ref l)) Q E s := by
  have hlt : l < s.heap.objs.size := by obtain ⟨_, e, _⟩ := hl; exact Heap.lt_size e
  exact wpAny_pyIter_list hl (h _ rfl ⟨⟨_, Heap.get?_push_size _ rfl, rfl, rfl⟩, hl.push _⟩ (Nat.ne_of_lt hlt))
theorem truth_bools {prog : Program} {w : World} {A : Around} {bs : List Bool} {its : List Value} (e : its = bs.map Value.bool) :
    TruthOf prog w A (fun i v => its.toArray[i]? = some v) (fun i => bs.getD i false) := fun i v s Q E hv hq => by
  have hv' : its[i]? = some v := by simpa using hv
  rw [e, List.getElem?_map] at hv'
  obtain ⟨b, hb, rfl⟩ := Option.map_eq_some_iff.mp hv'
  have hg : bs.getD i false = b := by rw [List.getD_eq_getElem?_getD, hb] <;> rfl
  have hq' : Q (bs.getD i false) s := hq
  rw [hg] at hq'
  exact wpAny_truthy_bool hq'
theorem any_range : ∀ bs : List Bool, (List.range bs.length).any (fun i => bs.getD i false) = bs.any id
  | [] => rfl
  | b :: bs => by
    rw [List.length_cons, List.range_succ_eq_map, List.any_cons, List.any_map, List.any_cons, ← any_range bs]
    all_goals rfl
section
variable {X : Cx}
def rAny (K : PySem.W.Frag) : List V → Hp → VK → Prop := fun vs H Q => ∃ (a : Addr) (bs : List Bool), vs = [V.ref a] ∧ SqL K H a (bs.map V.bl) ∧ Q (.bl (bs.any id)) H
theorem cr_any (hc : X.calm = true) : CallR X (.builtin "any") (rAny X.K) := by
  intro pins s σ H vs us Q I r h
  obtain ⟨a, bs, rfl, hs, q⟩ := h
  obtain ⟨its, rv, hl, _⟩ := I.list hs
  rw [Vals.ref1 r]
  have hb := rv.bls
  refine call_any_walk (iter_any hl.isList fun s₂ e2 st hne => ?_)
  subst e2
  refine ⟨_, _, _, _, _, _, _, rfl, Walks.list (A := X.A.in1) (I.ok.hd hc) _ a hne its.toArray, st, truth_bools hb, fun h' tk hk => ?_⟩
  refine ⟨.bl _, H, I.kept fun b o eo => hk b o (fun hmem => ?_) (Heap.get?_push_of_some _ eo), ?_, q⟩
  · rcases List.mem_cons.mp hmem with e1 | hmem
    · exact absurd (e1 ▸ Heap.lt_size eo) (Nat.lt_irrefl _)
    · cases hmem
  · show Value.bool _ = Value.bool _
    rw [← any_range, hb, List.size_toArray, List.length_map]
end

/-! ### == and != of data at any depth: none, bools, ints, texts, lists, tuples -/
section
variable {X : Cx} {pins : List (Addr × Obj)} {σ : St} {H : Hp} {s : Shared}
end
section
variable {X : Cx}
end
end L2

namespace L2
open PySem PySem.Spec PyProof.Rows
abbrev CellAt (h : Heap) (c : Addr) (v : Option Value) : Prop := h.IsCell c v
def relS (scope sc : Scope) : Scope :=
  { scope with names := scope.names.map fun (n, k) => if (k == .free && sc.kind == .function && sc.names.lookup n == some .cell) then (n, .cell) else (n, k) }

def cloFrom (cells : List (Str × Addr)) : List (Str × NameKind) → List (Str × Addr) → List (Str × Addr)
  | [], acc => acc
  | (n, k) :: r, acc => if k == .free then cloFrom cells r ((n, (cells.lookup n).getD 0) :: acc) else cloFrom cells r acc

theorem closure_loop (env : Env) (f : Str × NameKind → List (Str × Addr) → Sem (ForInStep (List (Str × Addr))))
    (hf : ∀ n k c, f (n, k) c = if k == .free then (do let a ← cellOf env n; pure (.yield ((n, a) :: c))) else pure (.yield c)) :
    ∀ (names : List (Str × NameKind)) (acc : List (Str × Addr)), (∀ y ∈ names, y.2 = .free → ∃ c, env.cells.lookup y.1 = some c) → forIn names acc f = pure (cloFrom env.cells names acc)
  | [], acc, _ => by rw [List.forIn_nil]; rfl
  | (n, k) :: r, acc, h => by
    rw [List.forIn_cons, hf]
    have ih := fun acc => closure_loop env f hf r acc fun y hy => h y (List.mem_cons_of_mem _ hy)
    unfold cloFrom
    by_cases hk : (k == NameKind.free) = true
    · rw [if_pos hk, if_pos hk]
      obtain ⟨c, hc⟩ := h (n, k) List.mem_cons_self (by simpa using hk)
      have e : cellOf env n = pure c := by unfold cellOf; rw [hc]
      rw [e]
      have e2 : (env.cells.lookup n).getD 0 = c := by rw [hc]; rfl
      rw [e2]
      exact ih _
    · rw [if_neg hk, if_neg hk]
      exact ih _
theorem closure_ok {scope : Scope} {env : Env} (h : ∀ y ∈ scope.names, y.2 = .free → ∃ c, env.cells.lookup y.1 = some c) : closureFor scope env = pure (cloFrom env.cells scope.names []) := by
  simp only [closureFor]
  rw [closure_loop env _ (fun n k c => rfl) scope.names [] h]
  rfl

theorem mem_lookup {α : Type} : ∀ {l : List (Str × α)} {n : Str} {c : α}, (n, c) ∈ l → ∃ c', l.lookup n = some c'
  | (k, v) :: r, n, c, h => by
    rw [List.lookup_cons]
    cases hb : n == k with
    | true => exact ⟨_, rfl⟩
    | false =>
      rcases List.mem_cons.mp h with e | h
      · cases e; simp at hb
      · exact mem_lookup h

theorem cloFrom_mem {cells : List (Str × Addr)} : ∀ {names : List (Str × NameKind)} {acc : List (Str × Addr)} {n : Str} {c : Addr}, (n, c) ∈ cloFrom cells names acc → (n, c) ∈ acc ∨ ((n, .free) ∈ names ∧ c = (cells.lookup n).getD 0)
  | [], _, _, _, h => .inl h
  | (m, k) :: r, acc, n, c, h => by
    unfold cloFrom at h
    split at h
    · rename_i hk
      have hk : k = .free := by simpa using hk
      rcases cloFrom_mem h with h | ⟨h1, h2⟩
      · rcases List.mem_cons.mp h with e | h
        · cases e; exact .inr ⟨hk ▸ List.mem_cons_self, rfl⟩
        · exact .inl h
      · exact .inr ⟨List.mem_cons_of_mem _ h1, h2⟩
    · rcases cloFrom_mem h with h | ⟨h1, h2⟩
      · exact .inl h
      · exact .inr ⟨List.mem_cons_of_mem _ h1, h2⟩
theorem cloFrom_acc {cells : List (Str × Addr)} : ∀ {names : List (Str × NameKind)} {acc : List (Str × Addr)} {p : Str × Addr}, p ∈ acc → p ∈ cloFrom cells names acc
  | [], _, _, h => h
  | (m, k) :: r, acc, p, h => by
    unfold cloFrom
    split
    · exact cloFrom_acc (List.mem_cons_of_mem _ h)
    · exact cloFrom_acc h
theorem cloFrom_has {cells : List (Str × Addr)} : ∀ {names : List (Str × NameKind)} {acc : List (Str × Addr)} {n : Str}, (n, .free) ∈ names → (n, (cells.lookup n).getD 0) ∈ cloFrom cells names acc
  | (m, k) :: r, acc, n, h => by
    unfold cloFrom
    rcases List.mem_cons.mp h with e | h
    · cases e
      exact cloFrom_acc List.mem_cons_self
    · split
      · exact cloFrom_has h
      · exact cloFrom_has h

theorem cells_mem : ∀ {names : List (Str × NameKind)} {h : Heap} {acc : List (Str × Addr)} {x : Str} {c : Addr}, (x, c) ∈ cellsFrom h.objs.size names acc →
    (x, c) ∈ acc ∨ ((x, .cell) ∈ names ∧ h.objs.size ≤ c ∧ CellAt (pushCells h names) c none)
  | [], _, _, _, _, h => .inl h
  | (n, k) :: r, h, acc, x, c, hm => by
    unfold cellsFrom at hm
    unfold pushCells
    split at hm
    · rename_i hk
      rw [if_pos hk]
      have hk : k = .cell := by simpa using hk
      rw [← Heap.size_push h { cls := .type "cell", data := .cell none }] at hm
      rcases cells_mem hm with hm | ⟨h1, h2, h3⟩
      · rcases List.mem_cons.mp hm with e | hm
        · cases e
          exact .inr ⟨hk ▸ List.mem_cons_self, Nat.le_refl _, _, pushCells_keeps r _ _ _ (Heap.get?_push_size _ rfl), rfl⟩
        · exact .inl hm
      · rw [Heap.size_push] at h2
        exact .inr ⟨List.mem_cons_of_mem _ h1, Nat.le_of_succ_le h2, h3⟩
    · rename_i hk
      rw [if_neg hk]
      rcases cells_mem hm with hm | ⟨h1, h2, h3⟩
      · exact .inl hm
      · exact .inr ⟨List.mem_cons_of_mem _ h1, h2, h3⟩
theorem cells_acc : ∀ {names : List (Str × NameKind)} {n : Nat} {acc : List (Str × Addr)} {p : Str × Addr}, p ∈ acc → p ∈ cellsFrom n names acc
  | [], _, _, _, h => h
  | (m, k) :: r, n, acc, p, h => by
    unfold cellsFrom
    split
    · exact cells_acc (List.mem_cons_of_mem _ h)
    · exact cells_acc h
theorem cells_has : ∀ {names : List (Str × NameKind)} {n : Nat} {acc : List (Str × Addr)} {x : Str}, (x, .cell) ∈ names → ∃ c, (x, c) ∈ cellsFrom n names acc
  | (m, k) :: r, n, acc, x, h => by
    unfold cellsFrom
    rcases List.mem_cons.mp h with e | h
    · cases e
      exact ⟨n, cells_acc List.mem_cons_self⟩
    · split
      · exact cells_has h
      · exact cells_has h
theorem cells_inj : ∀ {names : List (Str × NameKind)} {h : Heap} {acc : List (Str × Addr)} {x y : Str} {c : Addr}, (∀ p ∈ acc, p.2 < h.objs.size) → (∀ x y c, (x, c) ∈ acc → (y, c) ∈ acc → x = y) →
    (x, c) ∈ cellsFrom h.objs.size names acc → (y, c) ∈ cellsFrom h.objs.size names acc → x = y
  | [], _, _, _, _, _, _, hi, h1, h2 => hi _ _ _ h1 h2
  | (n, k) :: r, h, acc, x, y, c, hl, hi, h1, h2 => by
    unfold cellsFrom at h1 h2
    split at h1
    · rename_i hk
      rw [if_pos hk] at h2
      rw [← Heap.size_push h { cls := .type "cell", data := .cell none }] at h1 h2
      refine cells_inj (h := h.push _) (fun p hp => ?_) (fun x y c a b => ?_) h1 h2
      · rw [Heap.size_push]
        rcases List.mem_cons.mp hp with rfl | hp
        · exact Nat.lt_succ_self _
        · exact Nat.lt_succ_of_lt (hl p hp)
      · rcases List.mem_cons.mp a with e | a <;> rcases List.mem_cons.mp b with e' | b
        · cases e; cases e'; rfl
        · cases e; exact absurd (hl _ b) (Nat.lt_irrefl _)
        · cases e'; exact absurd (hl _ a) (Nat.lt_irrefl _)
        · exact hi _ _ _ a b
    · rename_i hk
      rw [if_neg hk] at h2
      exact cells_inj hl hi h1 h2

theorem newEnv_comp {M : Model} {A : Around} {E : Value → Shared → Prop} {s : Shared} {scope : Scope} {globals : Addr} {closure : List (Str × Addr)} {qual : Str} {func : Option Addr} {code : Value} {around : Env} {builtins : Addr} {Q : Env → Shared → Prop}
    (h : Q (newEnv scope s.heap.objs.size globals (cellsFrom (s.heap.objs.size + 1) scope.names closure) qual func code (some around) builtins)
      { s with heap := pushCells (s.heap.push { cls := .type "dict", data := .dict #[] }) scope.names }) :
    wpAny M A (newFunctionEnv scope globals closure [] qual func code (some around) builtins) Q E s := by
  simp only [newFunctionEnv, Option.isSome_some, if_true]
  refine wpAny_bind (wpAny_alloc ?_)
  refine wpAny_bind (wpAny_layCells _ (fun n k c => rfl) scope.names closure _ _ ?_)
  rw [show ({ s with heap := s.heap.push { cls := .type "dict", data := .dict #[] } } : Shared).heap.objs.size = s.heap.objs.size + 1 from Heap.size_push ..]
  rw [List.forIn_nil]
  exact wpAny_bind (wpAny_pure (wpAny_pure h))

/-- every name of the written scope, in the scope that runs -/
theorem lookup_relS {sc : Scope} : ∀ {names : List (Str × NameKind)} {x : Str} {k : NameKind},
    (names.map fun (n, k) => if (k == NameKind.free && sc.kind == .function && sc.names.lookup n == some .cell) then (n, NameKind.cell) else (n, k)).lookup x = some k →
    ∃ k', names.lookup x = some k' ∧ (k = k' ∨ (k' = .free ∧ k = .cell))
  | [], _, _, h => by simp at h
  | (n, k₀) :: r, x, k, h => by
    have ih := @lookup_relS sc r x k
    have h' : List.lookup x ((if (k₀ == NameKind.free && sc.kind == .function && sc.names.lookup n == some .cell) = true then (n, NameKind.cell) else (n, k₀)) :: (r.map _)) = some k := h
    cases hx : x == n with
    | true =>
      simp only [List.lookup_cons, hx]
      by_cases hc : (k₀ == NameKind.free && sc.kind == .function && sc.names.lookup n == some .cell) = true
      · rw [if_pos hc] at h'
        simp only [List.lookup_cons, hx] at h'
        cases h'
        simp only [Bool.and_eq_true, beq_iff_eq] at hc
        exact ⟨k₀, rfl, .inr ⟨hc.1.1, rfl⟩⟩
      · rw [if_neg hc] at h'
        simp only [List.lookup_cons, hx] at h'
        cases h'
        exact ⟨_, rfl, .inl rfl⟩
    | false =>
      simp only [List.lookup_cons, hx]
      by_cases hc : (k₀ == NameKind.free && sc.kind == .function && sc.names.lookup n == some .cell) = true
      · rw [if_pos hc] at h'
        simp only [List.lookup_cons, hx] at h'
        exact ih h'
      · rw [if_neg hc] at h'
        simp only [List.lookup_cons, hx] at h'
        exact ih h'



/-- the names of a comprehension's block: its own (with their places in N), or captured -/
structure BlkOk (N : List Str) (sc scope : Scope) (own : List (Str × Nat)) : Prop where
  kind : scope.kind = .function
  uniq : ∀ y ∈ scope.names, scope.names.lookup y.1 = some y.2
  ix : ∀ p ∈ own, N[p.2]? = some p.1
  free : ∀ y ∈ scope.names, y.2 = .free → sc.names.lookup y.1 = some .cell ∨ sc.names.lookup y.1 = some .free
  own : ∀ y ∈ scope.names, y.2 = .local ∨ y.2 = .cell → y.1 ∈ own.map (·.1) ∨ y.1 ∉ N
/-- the slots of the block's own names forgotten -/
def wipe (σ : St) : List Nat → St
  | [] => σ
  | v :: vs => (wipe σ vs).set v none
theorem wipe_length (σ : St) : ∀ vs : List Nat, (wipe σ vs).length = σ.length
  | [] => rfl
  | v :: vs => by unfold wipe; rw [List.length_set, wipe_length σ vs]
theorem wipe_some {σ : St} {i : Nat} {x : V} : ∀ {vs : List Nat}, (wipe σ vs)[i]? = some (some x) → σ[i]? = some (some x) ∧ i ∉ vs
  | [], h => ⟨h, by simp⟩
  | v :: vs, h => by
    unfold wipe at h
    by_cases hi : v = i
    · subst hi
      by_cases hv : v < (wipe σ vs).length
      · rw [List.getElem?_set_self hv] at h; cases h
      · rw [List.getElem?_eq_none (by simpa using hv)] at h; cases h
    · rw [List.getElem?_set_ne hi] at h
      obtain ⟨h1, h2⟩ := wipe_some h
      exact ⟨h1, by simp only [List.mem_cons, not_or]; exact ⟨fun e => hi e.symm, h2⟩⟩

/-- the context of a block that starts at s, its iterator's objects at fp -/
abbrev Cx.blk (X : Cx) (s : Shared) (H : Hp) (scope : Scope) (cenv : Env) (fp : List Addr) : Cx := { X with s_0 := s, H_0 := H, env := cenv, outer := X.stack, ex := fp, fn := fun x => scope.names.lookup x == some .cell, pn := [], xe := fun _ _ => False }
section
variable {X : Cx} {pins : List (Addr × Obj)} {σ : St} {H : Hp} {s : Shared}
theorem block_start {scope : Scope} {own : List (Str × Nat)} {fp : List Addr} (I : Inv X pins σ H s) (ok : BlkOk X.N X.env.scope scope own) (hN : X.N.Nodup) (hfp : ∀ b ∈ fp, FpOk X pins H b ∧ b < s.heap.objs.size) :
    Inv (X.blk s H scope (compEnvC scope (cellsFrom (s.heap.objs.size + 1) scope.names (cloFrom X.env.cells scope.names [])) s.heap.objs.size X.env) fp) [] (wipe σ (own.map (·.2))) H { s with heap := pushCells (s.heap.push { cls := .type "dict", data := .dict #[] }) scope.names } := by
  have hfree : ∀ y ∈ scope.names, y.2 = .free → ∃ c, X.env.cells.lookup y.1 = some c := fun y hy e => by
    rcases ok.free y hy e with k | k
    · exact I.ok.has _ (.inl k)
    · exact I.ok.has _ (.inr k)
  generalize hcenv : compEnvC scope (cellsFrom (s.heap.objs.size + 1) scope.names (cloFrom X.env.cells scope.names [])) s.heap.objs.size X.env = cenv
  have kp : ∀ b o, s.heap.get? b = some o → (pushCells (s.heap.push { cls := .type "dict", data := .dict #[] }) scope.names).get? b = some o := fun b o e => pushCells_keeps _ _ _ _ (Heap.get?_push_of_some _ e)
  have hL : cenv.locals = s.heap.objs.size := by rw [← hcenv]; rfl
  have hcl : cenv.cells = cellsFrom (s.heap.objs.size + 1) scope.names (cloFrom X.env.cells scope.names []) := by rw [← hcenv]; rfl
  have hsc : cenv.scope = relS scope X.env.scope := by rw [← hcenv]; rfl
  rw [← Heap.size_push s.heap { cls := .type "dict", data := .dict #[] }] at hcl
  have cm : ∀ {y c}, (y, c) ∈ cloFrom X.env.cells scope.names [] → X.env.cells.lookup y = some c ∧ c < s.heap.objs.size := fun {y c} hm => by
    rcases cloFrom_mem hm with hm | ⟨h1, rfl⟩
    · cases hm
    · obtain ⟨c, hc⟩ := hfree _ h1 rfl
      rw [hc]
      obtain ⟨w, z⟩ := I.cell _ _ hc
      exact ⟨rfl, z.lt⟩
  have mem : ∀ {y c}, cenv.cells.lookup y = some c → (X.env.cells.lookup y = some c ∧ c < s.heap.objs.size) ∨ (s.heap.objs.size + 1 ≤ c ∧ CellAt (pushCells (s.heap.push { cls := .type "dict", data := .dict #[] }) scope.names) c none) := fun {y c} e => by
    rw [hcl] at e
    rcases cells_mem (PySem.mem_of_lookup e) with hm | ⟨_, h2, h3⟩
    · exact .inl (cm hm)
    · rw [Heap.size_push] at h2; exact .inr ⟨h2, h3⟩
  have look : ∀ {y}, scope.names.lookup y = some .free → ∃ c, cenv.cells.lookup y = some c ∧ X.env.cells.lookup y = some c := fun {y} hl => by
    have hy : (y, NameKind.free) ∈ scope.names := PySem.mem_of_lookup hl
    obtain ⟨c', e'⟩ := mem_lookup (cells_acc (names := scope.names) (n := (s.heap.push { cls := .type "dict", data := .dict #[] }).objs.size) (cloFrom_has (cells := X.env.cells) (acc := []) hy))
    rw [← hcl] at e'
    refine ⟨c', e', ?_⟩
    rw [hcl] at e'
    rcases cells_mem (PySem.mem_of_lookup e') with hm | ⟨h1, _, _⟩
    · exact (cm hm).1
    · have := ok.uniq _ h1
      rw [hl] at this; cases this
  have okB : (X.blk s H scope cenv fp).Ok := by
    refine ⟨I.ok.mod, by show cenv.scope.kind = _; rw [hsc]; exact ok.kind, by show cenv.globals = _; rw [← hcenv]; exact I.ok.glob, by show cenv.builtins = _; rw [← hcenv]; exact I.ok.blt, by show s.heap.objs.size ≤ cenv.locals; rw [hL]; exact Nat.le_refl _,
      fun y z c e1 e2 => ?_, fun y hy => ?_, fun y c z e => ?_, I.ok.hd, I.ok.frames, .inl rfl, fun b hb => ⟨?_, fun y c e z => ?_⟩, I.bs, Nat.le_trans I.ok.bsz I.sz, fun b o e hb => ?_, fun b hb z => ?_, I.stack, I.stkFree⟩
    · have e1 : cenv.cells.lookup y = some c := e1
      have e2 : cenv.cells.lookup z = some c := e2
      rw [hcl] at e1 e2
      refine cells_inj (fun p hp => ?_) (fun y z c a b => I.ok.inj y z c (cm a).1 (cm b).1) (PySem.mem_of_lookup e1) (PySem.mem_of_lookup e2)
      rw [Heap.size_push]
      exact Nat.lt_succ_of_lt (cm (y := p.1) (c := p.2) hp).2
    · show ∃ c, cenv.cells.lookup y = some c
      have key : ∀ k, cenv.kindOf y = some k → (k = .cell ∨ k = .free) → ∃ c, cenv.cells.lookup y = some c := fun k hk hk' => by
        unfold Env.kindOf at hk
        rw [hsc] at hk
        obtain ⟨k', e, r⟩ := lookup_relS hk
        have : k' = .cell ∨ k' = .free := by
          rcases r with rfl | ⟨rfl, _⟩
          · exact hk'
          · exact .inr rfl
        rcases this with rfl | rfl
        · obtain ⟨c, hm⟩ := cells_has (n := (s.heap.push { cls := .type "dict", data := .dict #[] }).objs.size) (acc := cloFrom X.env.cells scope.names []) (PySem.mem_of_lookup e)
          obtain ⟨c', e'⟩ := mem_lookup hm
          exact ⟨c', by rw [hcl]; exact e'⟩
        · obtain ⟨c, h1, _⟩ := look e
          exact ⟨c, h1⟩
      rcases hy with hy | hy
      · exact key _ hy (.inl rfl)
      · exact key _ hy (.inr rfl)
    · have z : (scope.names.lookup y == some NameKind.cell) = true := z
      have z : scope.names.lookup y = some .cell := by simpa using z
      have e : cenv.cells.lookup y = some c := e
      rw [hcl] at e
      rcases cells_mem (PySem.mem_of_lookup e) with hm | ⟨_, h2, _⟩
      · rcases cloFrom_mem hm with hm | ⟨h1, _⟩
        · cases hm
        · have q := ok.uniq _ h1
          rw [z] at q; cases q
      · rw [Heap.size_push] at h2
        exact Nat.le_of_succ_le h2
    · show b ≠ cenv.locals
      rw [hL]; exact Nat.ne_of_lt (hfp b hb).2
    · have e : cenv.cells.lookup y = some c := e
      rcases mem e with ⟨h1, _⟩ | ⟨h1, _⟩
      · exact (hfp b hb).1.2.2.2.2.1 y c h1 z
      · have h2 : s.heap.objs.size + 1 ≤ b := by rw [← z]; exact h1
        exact absurd (Nat.lt_of_lt_of_le (hfp b hb).2 (Nat.le_of_succ_le h2)) (Nat.lt_irrefl _)
    · rcases (hfp b hb).1.2.2.2.1 with z | z
      · exact I.ok.noex b o e z
      · exact absurd (Nat.lt_of_lt_of_le (Heap.lt_size e) (Nat.le_trans I.ok.bsz z)) (Nat.lt_irrefl _)
    · rcases List.mem_cons.mp (I.stkSub b z) with z | z
      · exact (hfp b hb).1.2.1 z
      · exact (hfp b hb).1.2.2.1 z
  refine ⟨okB, rfl, I.bare, Un.kept kp, ⟨fun _ => none, ?_, fun i y av e1 e2 e3 => ?_⟩, fun y c e => ?_, ?_, fun y c e => ?_, fun p hp => ?_, I.hok.kept kp, by rw [wipe_length]; exact I.len⟩
  · show Heap.Ns _ cenv.locals _
    rw [hL]
    exact Heap.Ns.keeps (Heap.Ns.new ..) fun b o e => pushCells_keeps _ _ _ _ e
  · obtain ⟨e2, hne⟩ := wipe_some e2
    have hfr : scope.names.lookup y = some .free ∧ (cenv.kindOf y = some .cell ∨ cenv.kindOf y = some .free) := by
      have key : ∀ k, cenv.scope.names.lookup y = some k → k = .local ∨ k = .cell ∨ k = .free → scope.names.lookup y = some .free ∧ (cenv.kindOf y = some .cell ∨ cenv.kindOf y = some .free) := fun k hk hk' => by
        have hk0 := hk
        rw [hsc] at hk
        obtain ⟨k', e, r⟩ := lookup_relS hk
        have no : ¬ (k' = .local ∨ k' = .cell) := fun hh => by
          rcases ok.own _ (PySem.mem_of_lookup e) hh with e' | e'
          · obtain ⟨p, hp, hpy⟩ := List.mem_map.mp e'
            have e3 := ok.ix p hp
            have : p.1 = y := hpy
            rw [this] at e3
            exact hne (List.mem_map.mpr ⟨p, hp, nodup_ix hN e3 e1⟩)
          · exact e' (List.mem_of_getElem? e1)
        rcases r with rfl | ⟨rfl, rfl⟩
        · rcases hk' with rfl | rfl | rfl
          · exact absurd (.inl rfl) no
          · exact absurd (.inr rfl) no
          · exact ⟨e, .inr hk0⟩
        · exact ⟨e, .inl hk0⟩
      have e3 : Vis cenv.scope y := e3
      rcases e3 with e3 | e3 | e3
      · exact key _ e3 (.inl rfl)
      · exact key _ e3 (.inr (.inl rfl))
      · exact key _ e3 (.inr (.inr rfl))
    obtain ⟨m, hn, hl⟩ := I.loc
    have hvis : Vis X.env.scope y := (ok.free _ (PySem.mem_of_lookup hfr.1) rfl).elim (fun k => .inr (.inl k)) (fun k => .inr (.inr k))
    obtain ⟨w, r, q⟩ := hl i y av e1 e2 hvis
    refine ⟨w, r, .inr ⟨hfr.2, ?_⟩⟩
    obtain ⟨c, h1, h2⟩ := look hfr.1
    rcases q with ⟨k, _⟩ | ⟨_, c', e', z⟩
    · have k : X.env.scope.names.lookup y = some .local := k
      rcases ok.free _ (PySem.mem_of_lookup hfr.1) rfl with k' | k' <;> rw [show X.env.scope.names.lookup y = _ from k'] at k <;> cases k
    · rw [h2] at e'; cases e'
      exact ⟨c, h1, z.keeps kp⟩
  · have e : cenv.cells.lookup y = some c := e
    rcases mem e with ⟨h1, _⟩ | ⟨_, z⟩
    · obtain ⟨w, z⟩ := I.cell y c h1
      exact ⟨w, z.keeps kp⟩
    · exact ⟨_, z⟩
  · show H cenv.locals = none
    rw [hL]; exact I.hok.fresh (Nat.le_refl _)
  · have e : cenv.cells.lookup y = some c := e
    rcases mem e with ⟨h1, _⟩ | ⟨h1, _⟩
    · exact I.freeC y c h1
    · exact I.hok.fresh (Nat.le_of_succ_le h1)
  · exact absurd (show p ∈ ([] : List (Addr × Obj)) ++ [] from hp) (by simp)

/-- an item appended to a tracked list -/
theorem app_ok {E : Value → Shared → Prop} {D : Addr} {xs : List V} {y : V} {v : Value} {Q : Value → Shared → Prop} (I : Inv X pins σ H s) (hD : H D = some (.lst xs)) (hz : xs.length < sizeLine) (r : RelV y v)
    (h : ∀ s', Inv X pins σ (upd H D (.lst (xs ++ [y]))) s' → Q .none s') : wpAny (model X.prog X.w) X.A (call (.builtin "list.append") [.ref D, v]) Q E s := by
  obtain ⟨hz', its, n, ri, e⟩ := I.hok D _ hD
  have hl := ri.length
  refine append_at (hsz := by rw [List.size_toArray]; omega) e fun h' sb ho' => ?_
  refine h { s with heap := h' } (I.write (t' := s.toks) (by rw [hD]; trivial) (.inl rfl) (fun b u hb q => (sb.2 b hb).trans q) ⟨_, ho'⟩ ⟨by rw [List.length_append]; exact hz, its ++ [v], n + 1, ri.append (.cons r .nil), ?_⟩)
  rw [ho']
  simp

/-- a clause's tests -/
def PTs (X : Cx) (ifs : List Expr) (t : TT) : Prop :=
  ∀ (pins : List (Addr × Obj)) (s : Shared) (σ : St) (H : Hp) (Q : Bool → Hp → Prop), Inv X pins σ H s → t σ H Q →
    wpAny (model X.prog X.w) X.A (forIn ifs true fun c r => if r = true then do let ok ← isTrue c X.env (eval c X.env); pure (ForInStep.yield ok) else pure (ForInStep.yield r)) (TP X pins σ Q) X.xe s
def tYes : TT := fun _ H Q => Q true H
theorem pts_nil : PTs X [] tYes := fun _ _ _ H _ I h => wpAny_tests_nil ⟨H, I, h⟩
theorem pts_one {c : Expr} {t : TT} (h : PT X c t) : PTs X [c] t := fun pins s σ H Q I hw => wpAny_tests_one (h pins s σ H Q I hw)
end

theorem thnF {α : Type} {t : Sem α} {Q Q' : α → Shared → Prop} {M : Model} {A : Around} {E : Value → Shared → Prop} {s : Shared} (h : wpAny M A t Q (fun _ _ => False) s) (hQ : ∀ a s, Q a s → Q' a s) : wpAny M A t Q' E s := wpAny_mono h hQ fun _ _ z => False.elim z

/-- the loop of a list comprehension's block, the target of any form (codeAny_compLoop_tests asks a target that no tuple goes to; statement and proof follow it, PyProof/CompMap.lean:41-61, with the step letOwnedTupleGo kept) -/
theorem compLoop_any {prog : Program} {w : World} {A : Around} {R : Result → Shared → Prop} {s : Shared} {elt target iter : Expr} {ifs : List Expr} {scope : Scope} {pos : Pos} {it acc : Value} {env : Env} (I : Nat → Shared → Prop)
    (turn : ∀ n s, I n s → wpAny (model prog w) A (pyNext it) (fun r s₁ => match r with
      | none => R (.ok .next) s₁
      | some v => wpAny (model prog w) A (letOwnedTupleGo target it v) (fun _ s₁' => wpAny (model prog w) A (assign target env v) (fun _ s₂ =>
          wpAny (model prog w) A (forIn ifs true fun c r => if r = true then do let ok ← isTrue c env (eval c env); pure (ForInStep.yield ok) else pure (ForInStep.yield r)) (fun ok s₃ =>
            if ok = true then wpAny (model prog w) A (eval elt env) (fun x s₄ =>
              wpAny (model prog w) A (call (.builtin "list.append") [acc, x]) (fun _ s₅ => ∃ m, m < n ∧ I m s₅) (notedBy (model prog w) A env fun e s' => R (.error e) s') s₄) (notedBy (model prog w) A env fun e s' => R (.error e) s') s₃
            else ∃ m, m < n ∧ I m s₃) (notedBy (model prog w) A env fun e s' => R (.error e) s') s₂) (notedBy (model prog w) A env fun e s' => R (.error e) s') s₁') (notedBy (model prog w) A env fun e s' => R (.error e) s') s₁) (notedBy (model prog w) A env fun e s' => R (.error e) s') s)
    (n : Nat) (h : I n s) :
    codeAny (model prog w) A (.compLoop (.ListComp elt [⟨target, iter, ifs, 0⟩] scope pos) 0 it acc env) R s := by
  refine codeAny_loop rfl I (fun n s hI => ?_) n h
  show wpAny _ A ((compTurn (.ListComp elt [⟨target, iter, ifs, 0⟩] scope pos) 0 it acc env).onRaise (fun x => do noteFrame x env; theTreesLotGoes x)) _ _ s
  refine wpAny_noted ?_
  rw [compTurn_list]
  refine wpAny_bind (wpAny_standAt (wpAny_bind (wpAny_mono (turn n s hI) (fun r s₁ h₁ => ?_) fun _ _ h' => h')))
  cases r with
  | none => exact wpAny_pure h₁
  | some v =>
    refine wpAny_bind (wpAny_mono h₁ (fun _ s₁' h₁' => ?_) fun _ _ h' => h')
    refine wpAny_bind (wpAny_mono h₁' (fun _ s₂ h₂ => wpAny_bind (wpAny_mono h₂ (fun ok s₃ h₃ => ?_) fun _ _ h' => h')) fun _ _ h' => h')
    cases ok with
    | false => exact wpAny_pure ⟨rfl, h₃⟩
    | true =>
      exact wpAny_bind (wpAny_bind (wpAny_mono h₃ (fun x s₄ h₄ => wpAny_bind (wpAny_mono h₄ (fun _ s₅ h₅ => wpAny_pure (wpAny_pure ⟨rfl, h₅⟩)) fun _ _ h' => h')) fun _ _ h' => h'))

section
variable {X : Cx}
/-- [elt for target in iter if ..]: D the new list; W by the turn and a measure, Nx what a turn is to reach -/
def tLc (wi : TI) (g : TG) (tt : TT) (te : TE) (vs : List Nat) : TE := fun σ H Q => wi σ H fun J H1 => ∀ D, H1 D = none → ∃ W : Nat → Nat → Hp → Prop, (∃ m, W 0 m (upd H1 D (.lst []))) ∧ ∀ i m H, W i m H →
  (J.stop i H ∧ Q (.ref D) H) ∨ (J.go i H ∧ ∃ Nx : Hp → Prop, (∀ H', Nx H' → ∃ m', m' < m ∧ W (i + 1) m' H') ∧ ∀ x H', J.yld i H x H' → g x (wipe σ vs) H' fun σ2 H2 => wipe σ2 vs = wipe σ vs ∧ tt σ2 H2 fun b H3 =>
    if b = true then te σ2 H3 fun y H4 => ∃ acc, H4 D = some (.lst acc) ∧ acc.length < sizeLine ∧ Nx (upd H4 D (.lst (acc ++ [y]))) else Nx H3)
theorem lc_core {pins : List (Addr × Obj)} {s : Shared} {σ : St} {H : Hp} {Q : VK} {elt tg iter : Expr} {ifs : List Expr} {scope : Scope} {own : List (Str × Nat)} {pos pos' : Pos} {wi : TI} {g : TG} {tt : TT} {te : TE} {use : Option (Value → Sem Unit)} {Qf : Value → Shared → Prop}
    (hc : X.calm = true) (hN : X.N.Nodup) (I : Inv X pins σ H s) (hi : PI X tg iter wi) (ok : BlkOk X.N X.env.scope scope own)
    (hg : ∀ (s : Shared) (H : Hp) (C : Addr) (cl : List (Str × Addr)) (fp : List Addr), PG (X.blk s H scope (compEnvC scope cl C X.env) fp) tg g) (ht : ∀ (s : Shared) (H : Hp) (C : Addr) (cl : List (Str × Addr)) (fp : List Addr), PTs (X.blk s H scope (compEnvC scope cl C X.env) fp) ifs tt)
    (he : ∀ (s : Shared) (H : Hp) (C : Addr) (cl : List (Str × Addr)) (fp : List Addr), PE (X.blk s H scope (compEnvC scope cl C X.env) fp) elt te) (hs : ∀ x, foldedSetIterable iter X.env x = pure x)
    (h : tLc wi g tt te (own.map (·.2)) σ H Q)
    (hRR : ∀ D C s' m H', Inv X pins σ H' s' → Q (.ref D) H' → s'.heap.Ns C m → FpOk X pins H' C → compPost (model X.prog X.w) X.A X.xe use Qf (.ref D) C (.ok .next) s') :
    wpAny (model X.prog X.w) X.A (comprehension (.ListComp elt [⟨tg, iter, ifs, 0⟩] scope pos) scope X.env pos' (newList []) false (eval iter X.env) use) Qf X.xe s := by
  have hfree : ∀ y ∈ scope.names, y.2 = .free → ∃ c, X.env.cells.lookup y.1 = some c := fun y hy e => by
    rcases ok.free y hy e with k | k
    · exact I.ok.has _ (.inl k)
    · exact I.ok.has _ (.inr k)
  refine wpAny_comprehension_free (use := use) rfl hs (closure_ok hfree) ok.kind (fun y hy e => by rw [ok.uniq y hy, e])
    (thn (hi pins s σ H _ I h) fun xv s1 hx => thn hx fun itv s2 h2 => ?_)
  obtain ⟨it, fp, tn, J, H2, e, I2, T, st2, f2, q⟩ := h2
  subst e
  refine wpAny_newObj_type (newEnv_comp ?_) (by show 0 ≤ sizeLine; decide)
  generalize hD : s2.heap.objs.size = D
  have hDn : H2 D = none := I2.hok.fresh (Nat.le_of_eq hD)
  obtain ⟨W, ⟨m0, w0⟩, turn⟩ := q D hDn
  -- the new list
  generalize hs3 : ({ s2 with heap := s2.heap.push { cls := .type "list", data := .seq ([] : List Value).toArray } } : Shared) = s3
  have I3 : Inv X pins σ (upd H2 D (.lst [])) s3 := by
    rw [← hs3]
    refine I2.laid (t' := s2.toks) (fun b o e => Heap.get?_push_of_some _ e) (Nat.le_of_eq hD) ⟨Nat.zero_le _, [], 0, .nil, ?_⟩
    rw [← hD]
    exact Heap.get?_push_size _ rfl
  have h3 : s3.heap = s2.heap.push { cls := .type "list", data := .seq ([] : List Value).toArray } := by rw [← hs3]
  have sz : ∀ b ∈ fp, b < s2.heap.objs.size := fun b hb => by
    obtain ⟨o, e, _⟩ := T.obj _ _ st2 b hb
    exact Heap.lt_size e
  have f3 : ∀ b ∈ fp, FpOk X pins (upd H2 D (.lst [])) b ∧ b < s3.heap.objs.size := fun b hb => by
    have hlt := sz b hb
    refine ⟨⟨?_, (f2 b hb).2⟩, by rw [h3, Heap.size_push]; exact Nat.lt_succ_of_lt hlt⟩
    rw [upd_ne (by rw [← hD]; exact Nat.ne_of_lt hlt)]
    exact (f2 b hb).1
  have st3 : tn 0 s3.heap := T.keep _ _ _ st2 fun b _ o e => by rw [h3]; exact Heap.get?_push_of_some _ e
  have I4 := block_start I3 ok hN f3
  have pg := hg s3 (upd H2 D (.lst [])) s3.heap.objs.size (cellsFrom (s3.heap.objs.size + 1) scope.names (cloFrom X.env.cells scope.names [])) fp
  have pt := ht s3 (upd H2 D (.lst [])) s3.heap.objs.size (cellsFrom (s3.heap.objs.size + 1) scope.names (cloFrom X.env.cells scope.names [])) fp
  have pe := he s3 (upd H2 D (.lst [])) s3.heap.objs.size (cellsFrom (s3.heap.objs.size + 1) scope.names (cloFrom X.env.cells scope.names [])) fp
  show codeAny _ _ (.compStart (.ListComp elt [⟨tg, iter, ifs, 0⟩] scope pos) 0 (.ref it) (.ref D) (compEnvC scope (cellsFrom (s3.heap.objs.size + 1) scope.names (cloFrom X.env.cells scope.names [])) s3.heap.objs.size X.env)) (compPost (model X.prog X.w) X.A X.xe use Qf (.ref D) s3.heap.objs.size) { s3 with heap := pushCells (s3.heap.push { cls := .type "dict", data := .dict #[] }) scope.names }
  have nfp : ∀ b ∈ fp, (upd H2 D (.lst [])) b = none := fun b hb => (f3 b hb).1.1
  generalize hce : compEnvC scope (cellsFrom (s3.heap.objs.size + 1) scope.names (cloFrom X.env.cells scope.names [])) s3.heap.objs.size X.env = ce at I4 pg pt pe ⊢
  have cL : ce.locals = s3.heap.objs.size := by subst hce; rfl
  generalize hH3 : upd H2 D (.lst []) = H3 at I3 I4 pg pt pe w0 nfp f3
  generalize hs4 : ({ s3 with heap := pushCells (s3.heap.push { cls := .type "dict", data := .dict #[] }) scope.names } : Shared) = s4 at I4 ⊢
  have st4 : tn 0 s4.heap := T.keep _ _ _ st3 fun b _ o e => by rw [← hs4]; exact pushCells_keeps _ _ _ _ (Heap.get?_push_of_some _ e)
  have stat : ∀ {σ' : St} {H' : Hp} {s' : Shared}, Inv (X.blk s3 H3 scope ce fp) [] σ' H' s' → (∀ b ∈ fp, H' b = none) → ∀ b ∈ fp, FpOk (X.blk s3 H3 scope ce fp) [] H' b := fun {σ' H' s'} I' hn b hb =>
    ⟨hn b hb, (I'.ok.exf b hb).1, I'.ok.exfs b hb, .inl hb, fun x c e => (I'.ok.exf b hb).2 x c e, fun p hp => absurd (show p ∈ ([] : List (Addr × Obj)) ++ [] from hp) (by simp)⟩
  have loop : codeAny (model X.prog X.w) X.A (.compLoop (.ListComp elt [⟨tg, iter, ifs, 0⟩] scope pos) 0 (.ref it) (.ref D) ce) (compPost (model X.prog X.w) X.A X.xe use Qf (.ref D) s3.heap.objs.size) s4 := by
    refine compLoop_any (fun n s' => ∃ i H', Inv (X.blk s3 H3 scope ce fp) [] (wipe σ (own.map (·.2))) H' s' ∧ tn i s'.heap ∧ (∀ b ∈ fp, H' b = none) ∧ W i n H') ?_ m0 ⟨0, H3, I4, st4, nfp, w0⟩
    rintro n s5 ⟨i, H5, I5, st5, n5, w5⟩
    rcases turn i n H5 w5 with ⟨stop, qq⟩ | ⟨go, Nx, hNx, step⟩
    · have td := T.done (X.blk s3 H3 scope ce fp) rfl rfl rfl hc i [] s5 _ H5 (fun _ _ => False) I5 (stat I5 n5) st5 stop
      refine thnF td fun r s6 ⟨hr, I6⟩ => ?_
      subst hr
      -- back in the def's context
      have I7 : Inv X pins σ H5 s6 := I3.call' (ch := fp) I6.os I6.base I6.hok I6.bare fun b hb => ⟨(f3 b hb).1.2.2.2.1, (f3 b hb).1.2.1, (f3 b hb).1.2.2.2.2.1, (f3 b hb).1.2.2.2.2.2⟩
      have nC : H5 s3.heap.objs.size = none := by
        have z : H5 ce.locals = none := I6.free
        rw [cL] at z
        exact z
      obtain ⟨m, hn, _⟩ := I6.loc
      have hn : s6.heap.Ns ce.locals m := hn
      rw [cL] at hn
      exact hRR D s3.heap.objs.size s6 m H5 I7 qq hn (I3.fpOk (Nat.le_refl _) nC)
    · have ti := T.item (X.blk s3 H3 scope ce fp) rfl rfl rfl hc i [] s5 _ H5 (fun _ _ => False) I5 (stat I5 n5) st5 go
      refine thnF ti fun r s6 ⟨u, hr, h6⟩ => ?_
      subst hr
      refine thnF h6 fun _ s7 ⟨x, H7, I7, r7, y7, st7, n7⟩ => ?_
      have I7' := I7.pinned (stat I7 n7) (T.obj _ _ st7)
      refine thnF (pg _ s7 _ H7 x u _ I7' r7 (step x H7 y7)) fun _ s8 ⟨σ8, H8, I8, hw8, q8⟩ => ?_
      refine thnF (pt _ s8 σ8 H8 _ I8 q8) fun b s9 ⟨H9, I9, q9⟩ => ?_
      -- the turn's end
      have fin : ∀ {s' : Shared} {H' : Hp}, Inv (X.blk s3 H3 scope ce fp) ([] ++ pinsAt fp s7.heap) σ8 H' s' → Nx H' → ∃ m, m < n ∧ ∃ i H', Inv (X.blk s3 H3 scope ce fp) [] (wipe σ (own.map (·.2))) H' s' ∧ tn i s'.heap ∧ (∀ b ∈ fp, H' b = none) ∧ W i m H' := fun {s' H'} I' nx => by
        obtain ⟨m', hm, w'⟩ := hNx H' nx
        have pin' : ∀ b ∈ fp, ∀ o, s7.heap.get? b = some o → s'.heap.get? b = some o ∧ H' b = none := fun b hb o e =>
          let z := I'.pin (b, o) (List.mem_append_right _ (List.mem_append_right _ (mem_pinsAt hb e)))
          ⟨z.1, z.2.1⟩
        have hl : (wipe σ (own.map (·.2))).length = σ8.length := by rw [← hw8, wipe_length]
        refine ⟨m', hm, i + 1, H', (I'.unpinned (pins := [])).weak hl (fun j v e => ?_), T.keep _ _ _ st7 fun b hb o e => (pin' b hb o e).1, fun b hb => ?_, w'⟩
        · rw [← hw8] at e
          exact (wipe_some e).1
        · obtain ⟨o, e, _⟩ := T.obj _ _ st7 b hb
          exact (pin' b hb o e).2
      cases b with
      | false =>
        simp only [Bool.false_eq_true, if_false] at q9 ⊢
        exact fin I9 q9
      | true =>
        simp only [if_true] at q9 ⊢
        refine thnF (pe _ s9 σ8 H9 _ I9 q9) fun z s10 ⟨yv, H10, I10, r10, acc, hD10, hz10, nx⟩ => ?_
        exact app_ok (X := X.blk s3 H3 scope ce fp) I10 hD10 hz10 r10 fun s11 I11 => fin I11 nx
  exact codeAny_compStart_list loop (T.self X.A 0 _ _ _ st4 loop)
/-- as a value -/
theorem pe_lc {elt tg iter : Expr} {ifs : List Expr} {scope : Scope} {own : List (Str × Nat)} {pos : Pos} {wi : TI} {g : TG} {tt : TT} {te : TE} (hc : X.calm = true) (hN : X.N.Nodup) (hi : PI X tg iter wi) (ok : BlkOk X.N X.env.scope scope own)
    (hg : ∀ (s : Shared) (H : Hp) (C : Addr) (cl : List (Str × Addr)) (fp : List Addr), PG (X.blk s H scope (compEnvC scope cl C X.env) fp) tg g) (ht : ∀ (s : Shared) (H : Hp) (C : Addr) (cl : List (Str × Addr)) (fp : List Addr), PTs (X.blk s H scope (compEnvC scope cl C X.env) fp) ifs tt)
    (he : ∀ (s : Shared) (H : Hp) (C : Addr) (cl : List (Str × Addr)) (fp : List Addr), PE (X.blk s H scope (compEnvC scope cl C X.env) fp) elt te) (hs : ∀ x, foldedSetIterable iter X.env x = pure x := by intro _; rfl) :
    PE X (.ListComp elt [⟨tg, iter, ifs, 0⟩] scope pos) (tLc wi g tt te (own.map (·.2))) := by
  intro pins s σ H Q I h
  rw [eval_ListComp]
  refine lc_core hc hN I hi ok hg ht he hs h fun D C s' m H' I' q hn f => ⟨m, hn, fun h'' sb => ?_⟩
  obtain ⟨f0, f1, f2, f3, f4, f5⟩ := f
  exact ⟨.ref D, H', I'.turned (t' := s'.toks) (fun b o hb e => (sb.2 b hb).trans e) f0 f1 f3 f4 f5, rfl, q⟩
/-- name = [..] on one line, the name a local -/
theorem ps_setLc {i : Nat} {y : Str} {py : Pos} {elt tg iter : Expr} {ifs : List Expr} {scope : Scope} {own : List (Str × Nat)} {pos spos : Pos} {wi : TI} {g : TG} {tt : TT} {te : TE} (hc : X.calm = true) (hN : X.N.Nodup) (hy : X.N[i]? = some y) (hyl : X.env.scope.names.lookup y = some .local)
    (hsw : swapsWith (.ListComp elt [⟨tg, iter, ifs, 0⟩] scope pos) (some (.Name y py)) spos.line X.env = pure true) (hi : PI X tg iter wi) (ok : BlkOk X.N X.env.scope scope own)
    (hg : ∀ (s : Shared) (H : Hp) (C : Addr) (cl : List (Str × Addr)) (fp : List Addr), PG (X.blk s H scope (compEnvC scope cl C X.env) fp) tg g) (ht : ∀ (s : Shared) (H : Hp) (C : Addr) (cl : List (Str × Addr)) (fp : List Addr), PTs (X.blk s H scope (compEnvC scope cl C X.env) fp) ifs tt)
    (he : ∀ (s : Shared) (H : Hp) (C : Addr) (cl : List (Str × Addr)) (fp : List Addr), PE (X.blk s H scope (compEnvC scope cl C X.env) fp) elt te) (hs : ∀ x, foldedSetIterable iter X.env x = pure x := by intro _; rfl) :
    PS X (.Assign [.Name y py] (.ListComp elt [⟨tg, iter, ifs, 0⟩] scope pos) spos) (tAsg (tLc wi g tt te (own.map (·.2))) (gName i)) := by
  intro pins s σ H D I h
  rw [exec_Assign_Name_used _ _ _ _ hsw]
  refine wpAny_bind (wpAny_standAt (wpAny_bind ?_))
  show wpAny _ X.A (do let _ ← comprehension (.ListComp elt [⟨tg, iter, ifs, 0⟩] scope pos) scope X.env (firstIterPos [⟨tg, iter, ifs, 0⟩] pos) (newList []) false (eval iter X.env) (some (assign (.Name y py) X.env))) _ _ s
  have h : tLc wi g tt te (own.map (·.2)) σ H (fun x H1 => gName i x σ H1 D.nx) := h
  refine wpAny_bind (thn (lc_core (Qf := fun _ s' => SP X pins D .next s') hc hN I hi ok hg ht he hs h fun L C s' m H' I' q hn f => ?_) fun _ s' hq => wpAny_pure (wpAny_pure hq))
  show wpAny _ _ (assign (.Name y py) X.env (.ref L)) _ _ _
  refine wpAny_assign_Name (store_ok2 (v := V.ref L) I' hN hy (.inl hyl) rfl (fun s2 I2 ⟨a, sb, ha⟩ => ?_) (.inr hyl))
  obtain ⟨f0, f1, f2, f3, f4, f5⟩ := f
  have haC : C ≠ a := by
    rcases ha with z | z
    · rw [z]; exact f1
    · exact fun e => f4 y a z e.symm
  refine ⟨m, hn.sameBut sb haC, fun h3 sb3 => ?_⟩
  exact ⟨_, H', I2.turned (t' := s2.toks) (fun b o hb e => (sb3.2 b hb).trans e) f0 f1 f3 f4 f5, q⟩
end

/-! ### the forms one uses -/
/-- over a range: Pv by the turn and the heap (the new list at D within) -/
theorem lc_range {lo : Int} {n : Nat} {g : TG} {tt : TT} {te : TE} {vs : List Nat} {σ : St} {H1 : Hp} {D : Addr} {Qd : Hp → Prop} (Pv : Nat → Hp → Prop) (h0 : Pv 0 (upd H1 D (.lst [])))
    (hs : ∀ i H, i < n → Pv i H → g (.int (lo + i)) (wipe σ vs) H fun σ2 H2 => wipe σ2 vs = wipe σ vs ∧ tt σ2 H2 fun b H3 =>
      if b = true then te σ2 H3 fun y H4 => ∃ acc, H4 D = some (.lst acc) ∧ acc.length < sizeLine ∧ Pv (i + 1) (upd H4 D (.lst (acc ++ [y]))) else Pv (i + 1) H3) (hd : ∀ H, Pv n H → Qd H) :
    ∃ W : Nat → Nat → Hp → Prop, (∃ m, W 0 m (upd H1 D (.lst []))) ∧ ∀ i m H, W i m H →
      ((Itr lo n).stop i H ∧ Qd H) ∨ ((Itr lo n).go i H ∧ ∃ Nx : Hp → Prop, (∀ H', Nx H' → ∃ m', m' < m ∧ W (i + 1) m' H') ∧ ∀ x H', (Itr lo n).yld i H x H' → g x (wipe σ vs) H' fun σ2 H2 => wipe σ2 vs = wipe σ vs ∧ tt σ2 H2 fun b H3 =>
        if b = true then te σ2 H3 fun y H4 => ∃ acc, H4 D = some (.lst acc) ∧ acc.length < sizeLine ∧ Nx (upd H4 D (.lst (acc ++ [y]))) else Nx H3) := by
  refine ⟨fun i m H => m = n - i ∧ i ≤ n ∧ Pv i H, ⟨n, by simp, Nat.zero_le _, h0⟩, ?_⟩
  rintro i m H ⟨rfl, hi, p⟩
  by_cases hlt : i < n
  · refine .inr ⟨hlt, Pv (i + 1), fun H' p' => ⟨n - (i + 1), by omega, rfl, hlt, p'⟩, fun x H' y => ?_⟩
    obtain ⟨e, y⟩ := y
    subst e y
    exact hs i _ hlt p
  · have e : i = n := by omega
    subst e
    exact .inl ⟨Nat.le_refl _, hd H p⟩
/-- over a list that the block leaves as it is -/
theorem lc_list {K : PySem.W.Frag} {a : Addr} {xs : List V} {g : TG} {tt : TT} {te : TE} {vs : List Nat} {σ : St} {H1 : Hp} {D : Addr} {Qd : Hp → Prop} (Pv : Nat → Hp → Prop) (h0 : Pv 0 (upd H1 D (.lst []))) (hl : ∀ i H, i ≤ xs.length → Pv i H → SqL K H a xs)
    (hs : ∀ i x H, xs[i]? = some x → Pv i H → g x (wipe σ vs) H fun σ2 H2 => wipe σ2 vs = wipe σ vs ∧ tt σ2 H2 fun b H3 =>
      if b = true then te σ2 H3 fun y H4 => ∃ acc, H4 D = some (.lst acc) ∧ acc.length < sizeLine ∧ Pv (i + 1) (upd H4 D (.lst (acc ++ [y]))) else Pv (i + 1) H3) (hd : ∀ H, Pv xs.length H → Qd H) :
    ∃ W : Nat → Nat → Hp → Prop, (∃ m, W 0 m (upd H1 D (.lst []))) ∧ ∀ i m H, W i m H →
      ((Itl K a).stop i H ∧ Qd H) ∨ ((Itl K a).go i H ∧ ∃ Nx : Hp → Prop, (∀ H', Nx H' → ∃ m', m' < m ∧ W (i + 1) m' H') ∧ ∀ x H', (Itl K a).yld i H x H' → g x (wipe σ vs) H' fun σ2 H2 => wipe σ2 vs = wipe σ vs ∧ tt σ2 H2 fun b H3 =>
        if b = true then te σ2 H3 fun y H4 => ∃ acc, H4 D = some (.lst acc) ∧ acc.length < sizeLine ∧ Nx (upd H4 D (.lst (acc ++ [y]))) else Nx H3) := by
  refine ⟨fun i m H => m = xs.length - i ∧ i ≤ xs.length ∧ Pv i H, ⟨xs.length, by simp, Nat.zero_le _, h0⟩, ?_⟩
  rintro i m H ⟨rfl, hi, p⟩
  have q := hl i H hi p
  by_cases hlt : i < xs.length
  · refine .inr ⟨⟨xs, xs[i], q, by simp [hlt]⟩, Pv (i + 1), fun H' p' => ⟨xs.length - (i + 1), by omega, rfl, hlt, p'⟩, fun x H' y => ?_⟩
    obtain ⟨e, y⟩ := y
    subst e
    exact hs i x _ (y xs q) p
  · have e : i = xs.length := by omega
    subst e
    exact .inl ⟨⟨xs, q, Nat.le_refl _⟩, hd H p⟩
def blkC (N : List Str) (sc scope : Scope) (own : List (Str × Nat)) : Bool :=
  (match scope.kind with | .function => true | _ => false) && (scope.names.all fun y => decide (scope.names.lookup y.1 = some y.2)) && (own.all fun p => decide (N[p.2]? = some p.1)) &&
    (scope.names.all fun y => match y.2 with
      | .free => (match sc.names.lookup y.1 with | some .cell => true | some .free => true | _ => false)
      | .local => decide (y.1 ∈ own.map (·.1)) || decide (y.1 ∉ N)
      | .cell => decide (y.1 ∈ own.map (·.1)) || decide (y.1 ∉ N)
      | _ => true)
theorem blkOk_by {N : List Str} {sc scope : Scope} {own : List (Str × Nat)} (h : blkC N sc scope own = true) : BlkOk N sc scope own := by
  unfold blkC at h
  simp only [Bool.and_eq_true, List.all_eq_true, decide_eq_true_eq] at h
  obtain ⟨⟨⟨h1, h2⟩, h3⟩, h4⟩ := h
  refine ⟨?_, h2, h3, fun y hy e => ?_, fun y hy e => ?_⟩
  · split at h1
    · assumption
    · cases h1
  · have q := h4 y hy
    simp only [e] at q
    split at q <;> first | exact .inl (by assumption) | exact .inr (by assumption) | cases q
  · have q := h4 y hy
    rcases e with e | e <;> (simp only [e, Bool.or_eq_true, decide_eq_true_eq] at q; exact q)
end L2

namespace L2
open PySem PySem.Spec PyProof.Rows


section
variable {prog : Program} {w : World} {A : Around} {R : Result → Shared → Prop} {s : Shared} {elt t0 i0 t1 i1 : Expr} {ifs0 ifs1 : List Expr} {scope : Scope} {pos : Pos} {it acc : Value} {env : Env}
end

section
variable {X : Cx}
end
end L2

namespace L2
open PySem PySem.Spec PyProof.Rows

/-! ### lists of pairs as tables -/
section
variable {κ : Type} [DecidableEq κ]



end


/-! ### a tracked dict, its keys ints and texts or tuples of these -/


section
variable {P : Program} {w : World} {H : Hp} {h : Heap} {a : Addr}
end



section
variable {X : Cx} {pins : List (Addr × Obj)} {σ : St} {H : Hp} {s : Shared} {a : Addr} {y v : V} {u r : Value} {o : Option V} {A : Around} {E : Value → Shared → Prop}


end

section
variable {X : Cx} {pins : List (Addr × Obj)} {σ : St} {H : Hp} {s : Shared} {a : Addr} {kvs : List (Key × V)} {k : Key} {u : Value} {A : Around} {E : Value → Shared → Prop}
end


/-! ### readings and rules -/



section
variable {X : Cx} {o i e value : Expr} {pos pos' tpos : Pos} {td ty tv : TE}
end


/-! ### displays -/
section
variable {X : Cx} {pos : Pos}
end




/-! ### methods -/


section
variable {X : Cx} {pins : List (Addr × Obj)} {σ : St} {H : Hp} {s : Shared} {a : Addr} {y d : V} {u r : Value} {o : Option V} {A : Around} {E : Value → Shared → Prop}
end

section
variable {X : Cx} {o e f : Expr} {apos cpos : Pos} {td ty tx : TE}
end

/-! ### dict(d): a copy -/
section
variable {X : Cx} {pins : List (Addr × Obj)} {σ : St} {H : Hp} {s : Shared} {a : Addr} {kvs : List (Key × V)} {A : Around} {E : Value → Shared → Prop}
end


section
variable {X : Cx} {pins : List (Addr × Obj)} {σ : St} {H : Hp} {s : Shared} {a : Addr} {y : V} {u : Value} {A : Around} {E : Value → Shared → Prop}
end
end L2

namespace L2
open PySem PySem.Spec PyProof.Rows


section
variable {prog : Program} {w : World} {A : Around} {E : Value → Shared → Prop}


end

section
variable {X : Cx}
end
end L2

namespace L2
open PySem PySem.Spec PyProof.Rows


section
variable {X : Cx} {pins : List (Addr × Obj)} {σ : St} {H : Hp} {s : Shared} {h' : Heap}
/-- .. and one new object is laid -/
theorem Inv.turnedNew {t' : Nat} {ch : List Addr} {T : Addr} {ob : HO} (I : Inv X pins σ H s) (k : ∀ b o, b ∉ ch → s.heap.get? b = some o → h'.get? b = some o) (hf : ∀ b ∈ ch, FpOk X pins H b) (hT : s.heap.objs.size ≤ T)
    (new : ObjOk X.prog X.w (upd H T ob) h' T ob) : Inv X pins σ (upd H T ob) { s with heap := h', toks := t' } := by
  have hn : H T = none := I.hok.fresh hT
  have nit : ∀ b u, H b = some u → b ∉ ch := fun b u e z => by
    have q := (hf b z).1
    rw [q] at e; cases e
  refine I.step (g' := s.gens) (d' := s.drawn) (ch := ch) (fun b hb => ⟨(hf b hb).2.2.2.1, (hf b hb).2.1, (hf b hb).2.2.2.2.1, (hf b hb).2.2.2.2.2⟩) (fun b o _ _ hc e _ => k b o hc e) (fun b o _ _ hc e _ => ⟨o.slots, k b o hc e⟩)
    (fun b o _ e n => ?_) (fun b o hc e => ⟨o, k b o hc e⟩) (fun b xs e => ?_) (fun b o u e => ?_) (fun b ps e => ⟨#[], ?_⟩) (fun m hm => ?_) (fun b u e => ?_) I.bare
  · rw [upd_ne (Nat.ne_of_lt (Nat.lt_of_lt_of_le (Heap.lt_size e) hT))]; exact n
  · rw [upd_ne (ne_of_none e hn)]; exact e
  · rw [upd_ne (ne_of_none e hn)]; exact e
  · rw [upd_ne (ne_of_none e hn), e]; simp
  · obtain ⟨o, es, ep, ho, r⟩ := hm
    exact ⟨o, es, ep, k _ o (fun z => (hf _ z).2.1 rfl) ho, r⟩
  · by_cases hb : b = T
    · subst hb
      rw [upd_same] at e
      cases e
      exact new
    · rw [upd_ne hb] at e
      refine (I.hok b u e).stay (fun c v hc q => k c v ?_ q) (fun c q => by rw [upd_ne (ne_of_none q hn)]; exact q) fun c xs q => by rw [upd_ne (ne_of_none q hn)]; exact q
      rcases hc with z | z
      · rw [z]; exact nit b u e
      · exact nit c _ z

/-! ### locking a thing while a statement runs -/
end
section
variable {X : Cx}

/-! ### one iterator just laid -/
theorem pi_one {tg : Expr} {pins : List (Addr × Obj)} {σ : St} {H : Hp} {s : Shared} {R : It → Hp → Prop} {J : It} {tn : Nat → Heap → Prop} {tk : Nat} (I : Inv X pins σ H s) (o : Obj)
    (T : Turn X.prog X.w X.K tg J [s.heap.objs.size] s.heap.objs.size tn) (st : tn 0 (s.heap.push o)) (q : R J H) : PIE X pins σ tg R (.ref s.heap.objs.size) { s with heap := s.heap.push o, toks := tk } := by
  refine ⟨s.heap.objs.size, [s.heap.objs.size], tn, J, H, rfl, I.kept fun b ob e => Heap.get?_push_of_some _ e, T, st, fun b hb => ?_, q⟩
  have e : b = s.heap.objs.size := by simpa using hb
  subst e
  exact I.fpOk (Nat.le_refl _) (I.hok.fresh (Nat.le_refl _))
end

/-! ### range with a step -/
/-- lo, lo + c, .. (n of them) -/
def Itc (lo c : Int) (n : Nat) : It := ⟨fun i _ => i < n, fun i H x H' => H' = H ∧ x = .int (lo + (i : Nat) * c), fun i _ => n ≤ i⟩
theorem turn_rangeC {P : Program} {w : World} {K : PySem.W.Frag} {tg : Expr} (it : Addr) (lo c : Int) (n : Nat) : Turn P w K tg (Itc lo c n) [it] it (fun i h => IsRangeIter h it (lo + (i : Nat) * c) ((n : Int) - (i : Nat)) c) where
  mem := by simp
  obj := fun i h st b hb => by
    have e : b = it := by simpa using hb
    subst e
    exact ⟨_, st, fun v z => nomatch z⟩
  keep := fun i h h' st k => k it (by simp) _ st
  item := by
    intro X hP hw hK hc i pins s σ H E I hf st hg
    subst hP hw hK
    obtain ⟨f0, f1, f2, f3, f4, f5⟩ := hf it (by simp)
    have W := Walks.range (prog := X.prog) (w := X.w) (I.ok.hd hc) it lo c n
    refine W.item i s _ _ hg st fun v h' tk hv st' kk => ?_
    obtain ⟨t, rfl⟩ := hv
    have I1 : Inv X pins σ H { s with heap := h', toks := tk } := I.turned (fun b o hb e => kk b o (by simpa using hb) e) f0 f1 f3 f4 f5
    exact ⟨_, rfl, go_of (s := { s with heap := h', toks := tk }) (n := "range_iterator") st' rfl rfl (by decide) ⟨.int (lo + (i : Nat) * c), H, I1, ⟨t, rfl⟩, ⟨rfl, rfl⟩, st', fun b hb => (hf b hb).1⟩⟩
  done := by
    intro X hP hw hK hc i pins s σ H E I hf st hg
    subst hP hw hK
    obtain ⟨f0, f1, f2, f3, f4, f5⟩ := hf it (by simp)
    exact wpAny_pyNext_range_end (I.ok.hd hc) st (by have : n ≤ i := hg; omega) fun h' eb => ⟨rfl, I.turned (t' := s.toks) (fun b o hb e => eb b o hb e) f0 f1 f3 f4 f5⟩
  self := fun A i s Q E st h => wpAny_pyIter_rangeiter st h
/-- range(i, j, c): small bounds, n items -/
def RgC (i j c : Int) (n : Nat) : Prop := c ≠ 0 ∧ c.natAbs < 1073741824 ∧ Builtin.Range.small i j c = true ∧ Builtin.Range.rangeSize i j c = n
theorem RgC.neg {i j : Int} (ha : -(2 ^ 62) ≤ i) (ha' : i < 2 ^ 62) (hb : -(2 ^ 62) ≤ j) (hb' : j < 2 ^ 62) : RgC i j (-1) (i - j).toNat :=
  ⟨by decide, by decide, PySem.W.small_down ha ha' hb hb', PySem.W.rangeSize_downNat i j⟩
def iRng3 (ta : TA) : TI := fun σ H R => ta σ H fun vs H1 => ∃ (i j c : Int) (n : Nat), vs = [.int i, .int j, .int c] ∧ RgC i j c n ∧ R (Itc i c n) H1
section
variable {X : Cx} {tg : Expr}
theorem pi_range3 {a b c : Expr} {ta : TA} {p pos : Pos} (hg : Gl X "range") (hm : X.mg "range" = none) (ha : PA X [a, b, c] ta)
    (hs : starEach [a, b, c] X.env = (false, eval a X.env) :: starEach [b, c] X.env := by rfl) (hpl : (backTo pos (starEach [b, c] X.env)).any (·.1) = false := by rfl) :
    PI X tg (.Call (.Name "range" p) [a, b, c] [] pos) (iRng3 ta) := by
  intro pins s σ H R I h
  refine Call_ (ld_blt I hg hm boot_range (PyProof.Rows.callWith_type1 (thn (ha pos pins s σ H _ I h) fun us s1 ⟨vs, H1, I1, r1, q1⟩ => ?_) hs hpl))
  obtain ⟨i, j, k, n, e, ⟨c0, c1, c2, c3⟩, q⟩ := q1
  subst e
  cases r1 with
  | cons r rr =>
    cases rr with
    | cons r' rr =>
      cases rr with
      | cons r'' rr =>
        cases rr
        obtain ⟨t, rfl⟩ := r
        obtain ⟨t', rfl⟩ := r'
        obtain ⟨t'', rfl⟩ := r''
        refine call_range_3 c0 ?_ (.inl (PyProof.noPylong_small c1))
        refine wpAny_pyIter_range (IsRange.new ..) c2 ?_
        have I2 : Inv X pins σ H1 { s1 with heap := s1.heap.push { cls := .type "range", data := .fields #[.int i t, .int j t', .int k t''] } } := I1.kept (t' := s1.toks) fun b o e => Heap.get?_push_of_some _ e
        refine pi_one (tk := s1.toks) I2 _ (turn_rangeC _ i k n) ?_ q
        have e1 : i + ((0 : Nat) : Int) * k = i := by simp
        have e2 : (n : Int) - ((0 : Nat) : Int) = Builtin.Range.rangeSize i j k := by rw [c3]; simp
        show IsRangeIter _ _ (i + ((0 : Nat) : Int) * k) ((n : Int) - ((0 : Nat) : Int)) k
        rw [e1, e2]
        exact Heap.get?_push_size _ rfl
end
/-- the turns of a step range, for the for loop -/
theorem for_rangeC {lo c : Int} {n : Nat} {g : TG} {tb : TS} {D : Ends} {σ : St} {H : Hp} (Pv : Nat → St → Hp → Prop) (h0 : Pv 0 σ H)
    (hs : ∀ i σ H, i < n → Pv i σ H → g (.int (lo + (i : Nat) * c)) σ H fun σ2 H2 => tb { D with nx := Pv (i + 1), ct := Pv (i + 1), bk := D.nx } σ2 H2) (hd : ∀ σ H, Pv n σ H → D.nx σ H) :
    ∃ W : Nat → Nat → St → Hp → Prop, (∃ m, W 0 m σ H) ∧ ∀ i m σ H, W i m σ H →
      ((Itc lo c n).stop i H ∧ D.nx σ H) ∨ ((Itc lo c n).go i H ∧ ∃ N : St → Hp → Prop, (∀ σ' H', N σ' H' → ∃ m', m' < m ∧ W (i + 1) m' σ' H') ∧ ∀ x H', (Itc lo c n).yld i H x H' → g x σ H' fun σ2 H2 => tb { D with nx := N, ct := N, bk := D.nx } σ2 H2) := by
  refine ⟨fun i m σ H => m = n - i ∧ i ≤ n ∧ Pv i σ H, ⟨n, by simp, Nat.zero_le _, h0⟩, ?_⟩
  rintro i m σ H ⟨rfl, hi, p⟩
  by_cases hlt : i < n
  · refine .inr ⟨hlt, Pv (i + 1), fun σ' H' p' => ⟨n - (i + 1), by omega, rfl, hlt, p'⟩, fun x H' y => ?_⟩
    obtain ⟨e, y⟩ := y
    subst e y
    exact hs i σ _ hlt p
  · have e : i = n := by omega
    subst e
    exact .inl ⟨Nat.le_refl _, hd σ H p⟩

/-! ### reversed(list) -/
section
variable {X : Cx} {tg : Expr}
end

/-! ### a str -/

/-! ### a dict's keys: any dict's entries -/
section
variable {prog : Program} {w : World} {A : Around} {E : Value → Shared → Prop} {s : Shared}
end

/-! ### a locked dict -/
section
variable {X : Cx} {pins : List (Addr × Obj)} {σ : St} {H : Hp} {s : Shared} {d : Addr} {o : Obj}
end

section
variable {P : Program} {w : World} {K : PySem.W.Frag} {tg : Expr} {d : Addr} {o : Obj} {es : Array DictEntry} {ep : Nat}
end

/-! ### for k in d, d.keys(), d.values(), d.items() -/
section
variable {X : Cx} {tg e : Expr} {td : TE} {apos cpos : Pos}
end

/-! ### enumerate(list) -/
/-- the list at a as it stands at each turn, each item in a new pair -/
def Ite (K : PySem.W.Frag) (a : Addr) : It :=
  ⟨fun i H => ∃ (xs : List V) (x : V), SqL K H a xs ∧ xs[i]? = some x, fun i H v H' => ∃ T x, v = .ref T ∧ H T = none ∧ H' = upd H T (.tup [.int (i : Nat), x]) ∧ ∀ xs, SqL K H a xs → xs[i]? = some x, fun i H => ∃ xs : List V, SqL K H a xs ∧ xs.length ≤ i⟩
theorem turn_enum {P : Program} {w : World} {K : PySem.W.Frag} {elts : List Expr} {kk : Nat} {tpos : Pos} (a e it : Addr) :
    Turn P w K (.Tuple elts kk tpos) (Ite K a) [e, it] e (fun i h => (∃ old, IsEnum h e it ((i : Nat) : Int) old) ∧ h.IsListIter it a i ∧ e ≠ it) where
  mem := by simp
  obj := fun i h st b hb => by
    obtain ⟨⟨old, he⟩, ⟨o, ho, hc, hd⟩, _⟩ := st
    have e' : b = e ∨ b = it := by simpa using hb
    rcases e' with z | z
    · rw [z]; exact ⟨_, he, fun v q => nomatch q⟩
    · rw [z]; exact ⟨o, ho, fun v q => by rw [hd] at q; cases q⟩
  keep := fun i h h' st k => let ⟨⟨old, he⟩, hi, hne⟩ := st; ⟨⟨old, k e (by simp) _ he⟩, hi.at fun o q => k it (by simp) o q, hne⟩
  item := by
    intro X hP hw hK hc i pins s σ H E I hf st hg
    subst hP hw hK
    obtain ⟨⟨old, he⟩, hit, hne⟩ := st
    obtain ⟨xs, x, hq, hx⟩ := hg
    obtain ⟨its, rv, p, hz⟩ := I.list hq
    obtain ⟨u, hu, ru⟩ := rv.get hx
    have hel : e < s.heap.objs.size := Heap.lt_size he
    have hil : it < s.heap.objs.size := by obtain ⟨_, q, _⟩ := hit; exact Heap.lt_size q
    refine wpAny_pyNext_enum_item he hit p.isList (x := u) (by simpa using hu) hne fun h' ho hit' hT hsz hk => ?_
    refine ⟨_, rfl, wpAny_letOwnedTupleGo_enum (s := { s with heap := h', toks := s.toks + 1 }) ho fun h'' he' sb => ?_⟩
    have hT2 : h''.get? s.heap.objs.size = some { cls := .type "tuple", data := .seq #[.int i s.toks, u] } := (sb.2 _ (Nat.ne_of_gt hel)).trans hT
    have new : ObjOk X.prog X.w (upd H s.heap.objs.size (.tup [.int (i : Nat), x])) h'' s.heap.objs.size (.tup [.int (i : Nat), x]) :=
      ⟨by show 2 ≤ sizeLine; decide, [.int i s.toks, u], .cons ⟨_, rfl⟩ (.cons ru .nil), ⟨_, hT2, rfl, _, rfl⟩⟩
    have I1 : Inv X pins σ (upd H s.heap.objs.size (.tup [.int (i : Nat), x])) { s with heap := h'', toks := s.toks + 1 } :=
      I.turnedNew (ch := [e, it]) (fun b ob hb q => (sb.2 b (fun z => hb (by simp [z]))).trans (hk b ob (fun z => hb (by simp [z])) (fun z => hb (by simp [z])) q)) hf (Nat.le_refl _) new
    refine ⟨.ref s.heap.objs.size, _, I1, rfl, ⟨_, x, rfl, I.hok.fresh (Nat.le_refl _), rfl, fun ys hy => by rw [I.list_inj hy hq]; exact hx⟩, ⟨⟨u, ?_⟩, hit'.at fun o q => (sb.2 it (Ne.symm hne)).trans q, hne⟩, fun b hb => ?_⟩
    · have e1 : ((i + 1 : Nat) : Int) = (i : Int) + 1 := by omega
      rw [e1]; exact he'
    · have hb' : b < s.heap.objs.size := by
        have e' : b = e ∨ b = it := by simpa using hb
        rcases e' with z | z
        · rw [z]; exact hel
        · rw [z]; exact hil
      rw [upd_ne (Nat.ne_of_lt hb')]
      exact (hf b hb).1
  done := by
    intro X hP hw hK hc i pins s σ H E I hf st hg
    subst hP hw hK
    obtain ⟨⟨old, he⟩, hit, hne⟩ := st
    obtain ⟨xs, hq, hx⟩ := hg
    obtain ⟨its, rv, p, hz⟩ := I.list hq
    obtain ⟨f0, f1, f2, f3, f4, f5⟩ := hf it (by simp)
    have hl := rv.length
    exact wpAny_pyNext_enum_end (I.ok.hd hc) he hit p.isList (by simp; omega) fun h' eb => ⟨rfl, I.turned (t' := s.toks) (fun b o hb q => eb b o hb q) f0 f1 f3 f4 f5⟩
  self := fun A i s Q E st h => let ⟨⟨_, he⟩, _⟩ := st; wpAny_pyIter_enum he h
def iEnum (K : PySem.W.Frag) (ta : TA) : TI := fun σ H R => ta σ H fun vs H1 => ∃ a xs, vs = [.ref a] ∧ SqL K H1 a xs ∧ R (Ite K a) H1
theorem pi_enum {X : Cx} {e : Expr} {ta : TA} {p pos tpos : Pos} {elts : List Expr} {kk : Nat} (hg : Gl X "enumerate") (hm : X.mg "enumerate" = none) (ha : PA X [e] ta) (hs : starEach [e] X.env = [(false, eval e X.env)] := by rfl) :
    PI X (.Tuple elts kk tpos) (.Call (.Name "enumerate" p) [e] [] pos) (iEnum X.K ta) := by
  intro pins s σ H R I h
  refine Call_ (ld_blt I hg hm boot_enumerate (PyProof.Rows.callWith_type1 (thn (ha pos pins s σ H _ I h) fun us s1 ⟨vs, H1, I1, r1, q1⟩ => ?_) hs rfl))
  obtain ⟨a, xs, ex, hq, q⟩ := q1
  subst ex
  cases r1 with
  | cons r rr =>
    cases rr
    cases r
    obtain ⟨its, rv, p', hz⟩ := I1.list hq
    refine call_enumerate_list p'.isList fun h' he hit hsz hk => wpAny_pyIter_enum he ?_
    have I2 : Inv X pins σ H1 { s1 with heap := h' } := I1.kept (t' := s1.toks) hk
    refine ⟨s1.heap.objs.size + 1, [s1.heap.objs.size + 1, s1.heap.objs.size], _, _, H1, rfl, I2, turn_enum a (s1.heap.objs.size + 1) s1.heap.objs.size, ⟨⟨.none, he⟩, hit, Nat.succ_ne_self _⟩, fun b hb => ?_, q⟩
    have e' : b = s1.heap.objs.size + 1 ∨ b = s1.heap.objs.size := by simpa using hb
    have hle : s1.heap.objs.size ≤ b := by
      rcases e' with z | z
      · rw [z]; exact Nat.le_add_right _ _
      · rw [z]; exact Nat.le_refl _
    exact I1.fpOk hle (I1.hok.fresh hle)
/-! ### zip(list, list) -/
end L2

section 
namespace Bits
open PySem PyProof.Rows








end Bits
end 

section 
namespace TL
open PySem PySem.Builtin PySem.Builtin.Str PySem.StrLaws


/-! ### the list functions -/




/-! ### the model's split and partition are these -/




/-! ### computing spl and par -/


/-! ### digits -/

/-! ### words: x.split() -/
end TL
end 

namespace L2
open PySem PySem.Spec PyProof.Rows




section
variable {X : Cx} {pins : List (Addr × Obj)} {σ : St} {H : Hp} {s : Shared} {Q : VK}
end

section
variable {X : Cx}





/-! ### of a text alone -/

/-! ### of a text and a text -/

end

section
variable {X : Cx} {o e : Expr} {to te : TE}

end
end L2

namespace L2
open PySem PySem.Spec PyProof.Rows

section
variable {X : Cx}
end

/-! ### slices of a text -/


end L2

namespace Att
open PySem PySem.W PySem.Calls PyProof.Rows

/-! ### the script -/



/-! ### the attachment: holds_open's last premise (the goal 'hc' behind k_head) from a wpAny of the law's body -/



/-! ### rules over ANY heap (no ledger) from facts about the written part K: the library's own take a ledger (News) for what they write -/
section
variable {prog : Program} {w : World} {A : Around} {E : Value → Shared → Prop} {s : Shared} {K : Frag}





/-! the whole heap as the ledger: makes every rule that writes through a ledger a rule over any heap -/

end
end Att

namespace L2
open PySem PySem.Spec PyProof.Rows



end L2

namespace L2
open PySem PySem.Spec PyProof.Rows


end L2

/- THE LAST THEOREM (shape; LID, My.* are yours):
   My.Adr: a structure of the addresses that your layer names (classes, functions); My.Txt K t: a structure (Prop) of the equations over K;
   My.txt_mk : {K} {implicit addresses ..} (e1 : nsIn K mainGlobals "law" = some (some (.ref f))) (e2 : K.lookup f = some ⟨oc, od, .func (fnOf "law" "law" params body scope dV kV doc pm an cdv ct), sl⟩) (e3 : codeIn K cdv "law" = true) .. : ∃ t, My.Txt K t

set_option maxRecDepth 100000 in
set_option maxHeartbeats 0 in
theorem PySem.Challenge.cw_LID_holds : PySem.Challenge.rw_LID.Holds := by
  w_on; o_law; k_head; (case hw => w_witness2)
  k_fill
  refine L2.walk_of (l := PySem.Challenge.rw_LID) (n := 63) (k := 40) (x := "script") (CX := fun w => ..) (sp := fun _ => My.sp_law) rfl (by decide) rfl ⟨rfl, by decide, by decide⟩ (fun w h Y => PySem.W.kIn_of Y) ?F ?S ?C
  case F =>
    intro w mg fa h KX G hmg
    have T : ∃ t, My.Txt (L2.KOf KX) t := by
      dsimp only [L2.KOf]                          -- K must stand as «<heap const> w.params» for k_is
      refine' My.txt_mk ?e1 ?e2 ?e3 ..
      (case e1 => PySem.W.k_is)                    -- in the order: a name -> its address -> its object -> its parts
      (case e2 => PySem.W.k_is)
      ..
    obtain ⟨t, T⟩ := T
    have e0 := hmg.symm.trans (PySem.W.mg_of KX G T.law)
    cases e0                                       -- fa is the law's own address
    exact ⟨_, fun s u => .of_eq rfl, fun base kb nb => My.law_fn T kb nb⟩     -- if «.of_eq rfl» comes too early: refine' ⟨_, ?b, fun base kb nb => My.law_fn T kb nb⟩; exact fun s u => .of_eq rfl
  case S => exact fun w H a ns hl hO hS => ..
  case C => exact ..
(the tactic k_is has no namespace: write k_is) -/

/-! SHORT WORDS over the layer: a def of the text, its body, what a loop and a test want. -/
namespace L2
open PySem PySem.Spec PyProof.Rows

/-! ### the text by places -/
/-- the j-th statement of a class's body -/
def inClass (s : Stmt) (j : Nat) : Stmt := match s with
  | .ClassDef _ _ _ body _ _ _ _ _ _ _ => body.getD j (.Pass ⟨0, 0, 0, 0⟩)
  | _ => .Pass ⟨0, 0, 0, 0⟩
def defArgs (s : Stmt) : Arguments := match s with
  | .FunctionDef _ a _ _ _ _ _ _ _ _ => a
  | _ => { posonlyargs := [], args := [], vararg := none, kwonlyargs := [], kw_defaults := [], kwarg := none, defaults := [] }
def defBody (s : Stmt) : List Stmt := match s with
  | .FunctionDef _ _ b _ _ _ _ _ _ _ => b
  | _ => []
def defScope (s : Stmt) : Scope := match s with
  | .FunctionDef _ _ _ _ _ _ sc _ _ _ => sc
  | _ => { kind := .function, names := [], isGenerator := false, isCoroutine := false }

/-! ### no exception leaves a def -/
abbrev CX0 : CXT := fun _ _ _ _ _ _ => False
abbrev E0 : XK := fun _ _ _ => False
theorem pass0 {X : Cx} : Passes CX0 X E0 := fun _ _ _ _ _ _ _ h => h.elim

/-! ### a def (or method) of the text as it stands behind the top -/
structure Fun (K : PySem.W.Frag) (x qual : Str) (st : Stmt) (f : Addr) (fd : FuncData) : Prop where
  ex : ∃ (oc : Value) (od : Option Addr) (kV doc pm : Value) (an : Option Addr) (cdv ct : Value) (osl : Array (Option Value)),
    fd = PySem.W.fnOf x qual (defArgs st) (defBody st) (defScope st) .none kV doc pm an cdv ct ∧ K.lookup f = some ⟨oc, od, .func fd, osl⟩ ∧ PySem.W.codeIn K cdv qual = true
  kp : PySem.W.keepIn K (.ref f) = true
section
variable {P : Program} {w : World} {K : PySem.W.Frag} {mg : Str → Option Value} {base : Heap}
/-- THE RULE for a def: its body as a term of rules, and the reading of that term -/
theorem Fun.ok {x qual : Str} {st : Stmt} {f : Addr} {fd : FuncData} {N ps : List Str} {k : Nat} {sp : Sp} (F : Fun K x qual st f fd) (S : FnScope N ps (defScope st)) (len : ∀ vs H Q E, sp vs H Q E → vs.length = ps.length)
    (hbody : ∀ (cdv : Value) (A : Around) (outer : List Env) (s : Shared) (H : Hp) (vs : List V) (Q : VK) (E : XK), Room k (A.deeper (envOfC qual (defScope st) s.heap.objs.size f cdv)) → sp vs H Q E →
      ∃ t, PSs (cxOf CX0 P w K mg base N qual (defScope st) f cdv A outer s H E).nox (defBody st) t ∧ t { nx := fun _ H' => Q .non H', rt := Q } (start N vs) H) : FnOk P w K mg base CX0 (k + 1) f fd ps sp := by
  obtain ⟨oc, od, kV, doc, pm, an, cdv, ct, osl, rfl, lk, hcd⟩ := F.ex
  refine fn_of lk hcd S len fun A outer s H vs Q E hr hsp => ?_
  obtain ⟨t, h, q⟩ := hbody cdv A outer s H vs Q E hr hsp
  exact ⟨t, h.nox, q⟩
/-- how its arguments bind (no defaults): h is «fun _ _ _ _ _ _ us hl => match us, hl with | [_, _], _ => rfl», one _ a parameter -/
theorem Fun.binds {x qual : Str} {st : Stmt} {f : Addr} {fd : FuncData} {ps : List Str} (F : Fun K x qual st f fd)
    (h : ∀ (kV doc pm : Value) (an : Option Addr) (cdv ct : Value) (us : List Value), us.length = ps.length → bindArgs (PySem.W.fnOf x qual (defArgs st) (defBody st) (defScope st) .none kV doc pm an cdv ct) ⟨us, []⟩ = pure (ps.zip us)) : Binds K fd ps [] := by
  obtain ⟨oc, od, kV, doc, pm, an, cdv, ct, osl, rfl, lk, hcd⟩ := F.ex
  exact .all (h kV doc pm an cdv ct)
theorem fun_mk {x qual : Str} {st : Stmt} {f : Addr} {oc : Value} {od an : Option Addr} {osl : Array (Option Value)} {kV doc pm cdv ct : Value} (l : K.lookup f = some ⟨oc, od, .func (PySem.W.fnOf x qual (defArgs st) (defBody st) (defScope st) .none kV doc pm an cdv ct), osl⟩)
    (c : PySem.W.codeIn K cdv qual = true) (k : PySem.W.keepIn K (.ref f) = true) : Fun K x qual st f (PySem.W.fnOf x qual (defArgs st) (defBody st) (defScope st) .none kV doc pm an cdv ct) := ⟨⟨oc, od, kV, doc, pm, an, cdv, ct, osl, rfl, l, c⟩, k⟩
end
theorem hu_of {A : Around} {k : Nat} (hr : Room k A) : A.units + 1 < cLine := Nat.lt_of_le_of_lt (Nat.add_le_add_left (by decide : 1 ≤ 64) _) hr.units

/-! ### expressions in short: the name that stands in the i-th slot -/
section
variable {X : Cx}
theorem pv (i : Nat) {x : Str} {pos : Pos} (hN : X.N[i]? = some x := by rfl) (hv : Vis X.env.scope x := by first | exact Or.inl rfl | exact Or.inr (Or.inl rfl) | exact Or.inr (Or.inr rfl)) (hd : (x == ("__debug__" : Str)) = false := by decide)
    (hcd : (x == ("__classdict__" : Str)) = false := by decide) : PE X (.Name x pos) (tVar i) := pe_var hN hv hd hcd
end

/-! ### tests -/
theorem iteF {A B : Prop} (h : B) : if false = true then A else B := by
  rw [if_neg Bool.false_ne_true]
  exact h
theorem iteT {A B : Prop} (h : A) : if true = true then A else B := by
  rw [if_pos rfl]
  exact h

/-! ### heaps -/
/-- all that was tracked is as it was -/
def Same (H H' : Hp) : Prop := ∀ b o, H b = some o → H' b = some o
theorem Same.refl (H : Hp) : Same H H := fun _ _ h => h
theorem Same.trans {H H1 H2 : Hp} (a : Same H H1) (b : Same H1 H2) : Same H H2 := fun c o h => b c o (a c o h)
theorem Same.free {H H' : Hp} (e : Same H H') {l : Addr} (h : H' l = Option.none) : H l = Option.none := by
  cases q : H l with
  | none => rfl
  | some o =>
    rw [e l o q] at h
    cases h
theorem Same.seq {K : PySem.W.Frag} {H H' : Hp} {a : Addr} {xs : List V} (e : Same H H') (h : SqL K H a xs) : SqL K H' a xs := by
  rcases h with (h | ⟨o, h⟩) | h
  · exact .inl (.inl (e _ _ h))
  · exact .inl (.inr ⟨o, e _ _ h⟩)
  · exact .inr h

/-! ### a dict's pairs: keys that differ -/
section
variable {κ : Type} [DecidableEq κ]
end
/-! ### lists -/
theorem at_of {xs : List V} {z : Int} {j : Nat} {v : V} (e : z = (j : Int)) (h : xs[j]? = some v) : atI xs z = some v := by
  rw [e]
  exact atI_nat h
theorem nd_ix {α : Type} {l : List α} (hN : l.Nodup) {i j : Nat} {x : α} (a : l[i]? = some x) (b : l[j]? = some x) : i = j := by
  obtain ⟨h1, e1⟩ := List.getElem?_eq_some_iff.mp a
  obtain ⟨h2, e2⟩ := List.getElem?_eq_some_iff.mp b
  exact (List.getElem_inj hN).mp (e1.trans e2.symm)
end L2
end

section
section
set_option Elab.async false
set_option linter.all false
set_option maxRecDepth 100000
set_option maxHeartbeats 2000000
namespace L2
open PySem PySem.Spec PyProof.Rows
open PySem.W (WData Codec OpenSpec Well WellAll ReadsW ReadsAllW)
/-! ### an answer as data -/
mutual
/-- x stands for the datum d, lists and tuples all the way -/
inductive Dw (K : PySem.W.Frag) (H : Hp) : V → WData → Prop
  | non : Dw K H .non .none
  | bl (b : Bool) : Dw K H (.bl b) (.bool b)
  | int (i : Int) : Dw K H (.int i) (.int i)
  | str (x : Str) : Dw K H (.str x) (.str x)
  | byt (b : Array UInt8) : Dw K H (.byt b) (.bytes b.toList)
  | lst {a : Addr} {xs : List V} {ds : List WData} : SqL K H a xs → DwAll K H xs ds → Dw K H (.ref a) (.list ds)
  | tup {a : Addr} {xs : List V} {ds : List WData} : SqT K H a xs → DwAll K H xs ds → Dw K H (.ref a) (.tuple ds)
inductive DwAll (K : PySem.W.Frag) (H : Hp) : List V → List WData → Prop
  | nil : DwAll K H [] []
  | cons {v : V} {vs : List V} {d : WData} {ds : List WData} : Dw K H v d → DwAll K H vs ds → DwAll K H (v :: vs) (d :: ds)
end
theorem dw_ints {K : PySem.W.Frag} {H : Hp} : ∀ ns : List Int, DwAll K H (ns.map V.int) (ns.map WData.int)
  | [] => .nil
  | n :: r => .cons (.int n) (dw_ints r)
theorem ints_dw {K : PySem.W.Frag} {H : Hp} : ∀ (ns : List Int) (xs : List V), DwAll K H xs (ns.map WData.int) → xs = ns.map V.int
  | [], xs, h => by
    cases h
    rfl
  | n :: r, xs, h => by
    cases h with
    | cons h1 h2 =>
      cases h1
      rw [ints_dw r _ h2] <;> rfl
section
variable {P : Program} {w : World} {K : PySem.W.Frag} {H : Hp} {h : Heap} {R : PySem.W.WRecords} {cl : Str → Option Addr}
theorem sqL_at {a : Addr} {xs : List V} (hok : HOk P w H h) (KX : K.In h) (q : SqL K H a xs) : ∃ (its : List Value) (o : Obj) (n : Nat), Vals xs its ∧ h.get? a = some o ∧ o.cls = .type "list" ∧ o.data = .seq its.toArray n := by
  rcases q with q | ⟨o, its, n, e, hc, _, hd, _, hv⟩
  · obtain ⟨_, its, n, hv, e⟩ := (show ObjOk P w H h a (.lst xs) from q.ok hok)
    exact ⟨its, _, n, hv, e, rfl, rfl⟩
  · exact ⟨its.toList, o, n, hv, KX _ _ e, hc, by simp [hd]⟩
theorem sqT_at {a : Addr} {xs : List V} (hok : HOk P w H h) (KX : K.In h) (q : SqT K H a xs) : ∃ (its : List Value) (o : Obj) (n : Nat), Vals xs its ∧ h.get? a = some o ∧ o.cls = .type "tuple" ∧ o.data = .seq its.toArray n := by
  rcases q with q | ⟨o, its, n, e, hc, hd, _, hv⟩
  · obtain ⟨_, its, hv, o, e, hc, n, hd⟩ := (show ObjOk P w H h a (.tup xs) from q.ok hok)
    exact ⟨its, o, n, hv, e, hc, hd⟩
  · exact ⟨its.toList, o, n, hv, KX _ _ e, hc, by simp [hd]⟩
mutual
theorem Dw.reads (hok : HOk P w H h) (KX : K.In h) : ∀ (d : WData) (v : V) (u : Value), Dw K H v d → RelV v u → ∃ as, ReadsW R cl h u d as
  | .none, _, _, x, r => by
    cases x
    cases r
    exact ⟨_, ReadsW.none⟩
  | .bool b, _, _, x, r => by
    cases x
    cases r
    exact ⟨_, ReadsW.bool b⟩
  | .int i, _, _, x, r => by
    cases x
    obtain ⟨t, rfl⟩ := r
    exact ⟨_, ReadsW.int i t⟩
  | .str s, _, _, x, r => by
    cases x
    obtain ⟨t, rfl⟩ := r
    exact ⟨_, ReadsW.str s t⟩
  | .bytes b, _, _, x, r => by
    cases x
    obtain ⟨t, rfl⟩ := r
    exact ⟨_, ReadsW.bytes _ t⟩
  | .list ds, _, _, x, r => by
    cases x with
    | lst hs ha =>
      cases r
      obtain ⟨its, o, n, rv, ho, hc, hd⟩ := sqL_at hok KX hs
      obtain ⟨as, hr⟩ := Dw.readsAll hok KX ds _ its ha rv
      exact ⟨_, ReadsW.list ho hc hd hr⟩
  | .tuple ds, _, _, x, r => by
    cases x with
    | tup hs ha =>
      cases r
      obtain ⟨its, o, n, rv, ho, hc, hd⟩ := sqT_at hok KX hs
      obtain ⟨as, hr⟩ := Dw.readsAll hok KX ds _ its ha rv
      exact ⟨_, ReadsW.tuple ho hc hd hr⟩
  | .float _, _, _, x, _ => by cases x
  | .dict _, _, _, x, _ => by cases x
  | .bytearray _, _, _, x, _ => by cases x
  | .set _, _, _, x, _ => by cases x
  | .frozenset _, _, _, x, _ => by cases x
  | .obj _ _, _, _, x, _ => by cases x
theorem Dw.readsAll (hok : HOk P w H h) (KX : K.In h) : ∀ (ds : List WData) (vs : List V) (us : List Value), DwAll K H vs ds → Vals vs us → ∃ as, ReadsAllW R cl h us ds as
  | [], _, _, x, r => by
    cases x
    cases r
    exact ⟨_, ReadsAllW.nil⟩
  | d :: ds, _, _, x, r => by
    cases x with
    | cons h1 h2 =>
      cases r with
      | cons r1 r2 =>
        obtain ⟨as, q1⟩ := Dw.reads hok KX d _ _ h1 r1
        obtain ⟨bs, q2⟩ := Dw.readsAll hok KX ds _ _ h2 r2
        exact ⟨_, ReadsAllW.cons q1 q2⟩
end
end
/-! ### the arguments -/
mutual
/-- data that a codec tells -/
def plW : WData → Bool
  | .none => true
  | .bool _ => true
  | .int _ => true
  | .str _ => true
  | .bytes _ => true
  | .list xs => plWs xs
  | .tuple xs => plWs xs
  | _ => false
def plWs : List WData → Bool
  | [] => true
  | x :: r => plW x && plWs r
end
theorem plWs_map {α : Type} {f : α → WData} (h : ∀ a, plW (f a) = true) : ∀ l : List α, plWs (l.map f) = true
  | [] => rfl
  | x :: r => by
    show (plW (f x) && plWs (r.map f)) = true
    rw [h x, plWs_map h r] <;> rfl
theorem pl_enc : ∀ (c : Codec) (a : c.denote), plW (c.enc a) = true
  | .unit, _ => rfl
  | .bool, _ => rfl
  | .int _ _, _ => rfl
  | .nat _ _, _ => rfl
  | .u8, _ => rfl
  | .bytes _ _, _ => rfl
  | .text _ _ _ _, _ => rfl
  | .list _ _ c, a => plWs_map (fun x => pl_enc c x) a
  | .pair c d, a => by
    show (plW (c.enc a.1) && (plW (d.enc a.2) && true)) = true
    rw [pl_enc c a.1, pl_enc d a.2] <;> rfl
  | .triple c d e, a => by
    show (plW (c.enc a.1) && (plW (d.enc a.2.1) && (plW (e.enc a.2.2) && true))) = true
    rw [pl_enc c a.1, pl_enc d a.2.1, pl_enc e a.2.2] <;> rfl
  | .option c, none => rfl
  | .option c, some x => pl_enc c x
theorem pl_encAll : ∀ (cs : List Codec) (a : Codec.denoteAll cs), plWs (Codec.encAll cs a) = true
  | [], _ => rfl
  | c :: cs, a => by
    show (plW (c.enc a.1) && plWs (Codec.encAll cs a.2)) = true
    rw [pl_enc c a.1, pl_encAll cs a.2] <;> rfl
theorem weight_mem : ∀ {xs : List WData} {d : WData}, d ∈ xs → d.weight ≤ WData.weightAll xs
  | [], d, h => absurd h (by simp)
  | x :: r, d, h => by
    show d.weight ≤ x.weight + 1 + WData.weightAll r
    rcases List.mem_cons.mp h with e | m
    · rw [e]
      omega
    · have z := weight_mem m
      omega
def toV : Value → V
  | .none => .non
  | .bool b => .bl b
  | .int i _ => .int i
  | .str x _ => .str x
  | .bytes b _ => .byt b
  | .ref a => .ref a
  | _ => .non
/-- a value of the arguments, its objects among A -/
def OkU (A : List Addr) : Value → Prop
  | .none => True
  | .bool _ => True
  | .int _ _ => True
  | .str _ _ => True
  | .bytes _ _ => True
  | .ref a => a ∈ A
  | _ => False
theorem OkU.mono {A B : List Addr} (h : ∀ a ∈ A, a ∈ B) : ∀ {u : Value}, OkU A u → OkU B u := fun {u} x => by
  cases u with
  | ref a => exact h a x
  | none => trivial
  | bool b => trivial
  | int i t => trivial
  | str s t => trivial
  | bytes b t => trivial
  | _ => exact False.elim x
theorem relV_toV {A : List Addr} {u : Value} (x : OkU A u) : RelV (toV u) u := by
  cases u with
  | ref a => rfl
  | none => rfl
  | bool b => rfl
  | int i t => exact ⟨t, rfl⟩
  | str s t => exact ⟨t, rfl⟩
  | bytes b t => exact ⟨t, rfl⟩
  | _ => exact False.elim x
theorem vals_toV {A : List Addr} : ∀ {vs : List Value}, (∀ u ∈ vs, OkU A u) → Vals (vs.map toV) vs
  | [], _ => .nil
  | u :: r, h => .cons (relV_toV (h u (List.mem_cons_self ..))) (vals_toV fun x hx => h x (List.mem_cons_of_mem _ hx))
/-- an object of the arguments -/
def ArgOb (h : Heap) (A : List Addr) (a : Addr) : Prop := ∃ vs : List Value, vs.length ≤ sizeLine ∧ (∀ u ∈ vs, OkU A u) ∧
  (h.get? a = some { cls := .type "list", data := .seq vs.toArray } ∨ h.get? a = some { cls := .type "tuple", data := .seq vs.toArray })
theorem ArgOb.mono {h : Heap} {A B : List Addr} {a : Addr} (k : ∀ a ∈ A, a ∈ B) (x : ArgOb h A a) : ArgOb h B a := by
  obtain ⟨vs, h1, h2, h3⟩ := x
  exact ⟨vs, h1, fun u hu => (h2 u hu).mono k, h3⟩
theorem wellAll_len {P : Params} {h : Heap} : ∀ {vs : List Value} {ds : List WData}, WellAll P h vs ds → vs.length = ds.length
  | _, _, .nil => rfl
  | _, _, .cons _ b => by
    show _ + 1 = _ + 1
    rw [wellAll_len b]
theorem well_list {P : Params} {h : Heap} {v : Value} {ds : List WData} (x : Well P h v (.list ds)) : ∃ (a : Addr) (vs : List Value), v = .ref a ∧ h.get? a = some { cls := .type "list", data := .seq vs.toArray } ∧ WellAll P h vs ds := by
  cases x with
  | list ho hall => exact ⟨_, _, rfl, ho, hall⟩
theorem well_tuple {P : Params} {h : Heap} {v : Value} {ds : List WData} (x : Well P h v (.tuple ds)) : ∃ (a : Addr) (vs : List Value), v = .ref a ∧ h.get? a = some { cls := .type "tuple", data := .seq vs.toArray } ∧ WellAll P h vs ds := by
  cases x with
  | tuple ho hall => exact ⟨_, _, rfl, ho, hall⟩
theorem well_cons {P : Params} {h : Heap} {us : List Value} {d : WData} {ds : List WData} (x : WellAll P h us (d :: ds)) : ∃ (v : Value) (vs : List Value), us = v :: vs ∧ Well P h v d ∧ WellAll P h vs ds := by
  cases x with
  | cons a b => exact ⟨_, _, rfl, a, b⟩
theorem line_of {n : Nat} (h : n ≤ 1048576) : n ≤ sizeLine := Nat.le_trans h (by decide)
section
variable {P : Params} {h : Heap}
mutual
theorem area_one : ∀ (d : WData) (v : Value), Well P h v d → plW d = true → d.weight ≤ 1048576 → ∃ A : List Addr, OkU A v ∧ ∀ a ∈ A, ArgOb h A a
  | .none, _, x, _, _ => by
    cases x
    exact ⟨[], trivial, fun a m => absurd m (by simp)⟩
  | .bool b, _, x, _, _ => by
    cases x
    exact ⟨[], trivial, fun a m => absurd m (by simp)⟩
  | .int i, _, x, _, _ => by
    cases x
    exact ⟨[], trivial, fun a m => absurd m (by simp)⟩
  | .str s, _, x, _, _ => by
    cases x
    exact ⟨[], trivial, fun a m => absurd m (by simp)⟩
  | .bytes b, _, x, _, _ => by
    cases x
    exact ⟨[], trivial, fun a m => absurd m (by simp)⟩
  | .list ds, _, x, p, z => by
    obtain ⟨a, vs, rfl, ho, hall⟩ := well_list x
    have z2 : WData.weightAll ds ≤ 1048576 := z
    obtain ⟨A, h1, h2⟩ := area_all ds _ hall p fun d hd => Nat.le_trans (weight_mem hd) z2
    have k : ∀ b ∈ A, b ∈ a :: A := fun b hb => List.mem_cons_of_mem _ hb
    refine ⟨a :: A, List.mem_cons_self .., fun b hb => ?_⟩
    rcases List.mem_cons.mp hb with e | m
    · rw [e]
      exact ⟨vs, line_of (by rw [wellAll_len hall]; exact Nat.le_trans (PySem.W.length_le_weightAllW ds) z2), fun u hu => (h1 u hu).mono k, .inl ho⟩
    · exact (h2 b m).mono k
  | .tuple ds, _, x, p, z => by
    obtain ⟨a, vs, rfl, ho, hall⟩ := well_tuple x
    have z2 : WData.weightAll ds ≤ 1048576 := z
    obtain ⟨A, h1, h2⟩ := area_all ds _ hall p fun d hd => Nat.le_trans (weight_mem hd) z2
    have k : ∀ b ∈ A, b ∈ a :: A := fun b hb => List.mem_cons_of_mem _ hb
    refine ⟨a :: A, List.mem_cons_self .., fun b hb => ?_⟩
    rcases List.mem_cons.mp hb with e | m
    · rw [e]
      exact ⟨vs, line_of (by rw [wellAll_len hall]; exact Nat.le_trans (PySem.W.length_le_weightAllW ds) z2), fun u hu => (h1 u hu).mono k, .inr ho⟩
    · exact (h2 b m).mono k
  | .float _, _, _, p, _ => Bool.noConfusion (show false = true from p)
  | .dict _, _, _, p, _ => Bool.noConfusion (show false = true from p)
  | .bytearray _, _, _, p, _ => Bool.noConfusion (show false = true from p)
  | .set _, _, _, p, _ => Bool.noConfusion (show false = true from p)
  | .frozenset _, _, _, p, _ => Bool.noConfusion (show false = true from p)
  | .obj _ _, _, _, p, _ => Bool.noConfusion (show false = true from p)
theorem area_all : ∀ (ds : List WData) (vs : List Value), WellAll P h vs ds → plWs ds = true → (∀ d ∈ ds, d.weight ≤ 1048576) → ∃ A : List Addr, (∀ u ∈ vs, OkU A u) ∧ ∀ a ∈ A, ArgOb h A a
  | [], _, x, _, _ => by
    cases x
    exact ⟨[], fun u m => absurd m (by simp), fun a m => absurd m (by simp)⟩
  | d :: ds, _, x, p, z => by
    obtain ⟨v, vs, rfl, x1, x2⟩ := well_cons x
    have q : plW d = true ∧ plWs ds = true := Bool.and_eq_true_iff.mp p
    obtain ⟨A, a1, a2⟩ := area_one d v x1 q.1 (z d (List.mem_cons_self ..))
    obtain ⟨B, b1, b2⟩ := area_all ds vs x2 q.2 fun e he => z e (List.mem_cons_of_mem _ he)
    have kA : ∀ b ∈ A, b ∈ A ++ B := fun b hb => List.mem_append.mpr (.inl hb)
    have kB : ∀ b ∈ B, b ∈ A ++ B := fun b hb => List.mem_append.mpr (.inr hb)
    refine ⟨A ++ B, fun u hu => ?_, fun b hb => ?_⟩
    · rcases List.mem_cons.mp hu with e | m
      · rw [e]
        exact a1.mono kA
      · exact (b1 u m).mono kB
    · rcases List.mem_append.mp hb with m | m
      · exact (a2 b m).mono kA
      · exact (b2 b m).mono kB
end
end
/-- what is tracked of an argument's object -/
def hoOf (o : Obj) : Option HO := match o.data with
  | .seq vs _ => if (o.cls == Value.type "list") = true then some (.frz o (.lst (vs.toList.map toV))) else some (.frz o (.tup (vs.toList.map toV)))
  | _ => none
def argH (K : PySem.W.Frag) (h : Heap) (A : List Addr) : Hp := fun b => if b ∈ A then (if (K.lookup b).isNone = true then (h.get? b).bind hoOf else none) else none
/-- nothing is tracked but what is known to the object -/
def OnlyF (H : Hp) : Prop := ∀ b, H b = none ∨ ∃ o u, H b = some (.frz o u)
theorem hoOf_lst (vs : List Value) : hoOf { cls := .type "list", data := .seq vs.toArray } = some (.frz { cls := .type "list", data := .seq vs.toArray } (.lst (vs.map toV))) := by
  show (if (Value.type "list" == Value.type "list") = true then some (HO.frz { cls := .type "list", data := .seq vs.toArray } (.lst (vs.toArray.toList.map toV))) else some (HO.frz { cls := .type "list", data := .seq vs.toArray } (.tup (vs.toArray.toList.map toV)))) = _
  rw [if_pos (beq_self_eq_true _)]
theorem hoOf_tup (vs : List Value) : hoOf { cls := .type "tuple", data := .seq vs.toArray } = some (.frz { cls := .type "tuple", data := .seq vs.toArray } (.tup (vs.map toV))) := by
  show (if (Value.type "tuple" == Value.type "list") = true then some (HO.frz { cls := .type "tuple", data := .seq vs.toArray } (.lst (vs.toArray.toList.map toV))) else some (HO.frz { cls := .type "tuple", data := .seq vs.toArray } (.tup (vs.toArray.toList.map toV)))) = _
  rw [if_neg (by decide)]
section
variable {P : Program} {w : World} {K : PySem.W.Frag} {h : Heap} {A : List Addr}
theorem argH_at {b : Addr} {o : Obj} (hb : b ∈ A) (hk : K.lookup b = none) (e : h.get? b = some o) : argH K h A b = hoOf o := by
  unfold argH
  rw [if_pos hb, hk, if_pos (show (none : Option Obj).isNone = true from rfl), e] <;> rfl
theorem of_argH {b : Addr} {u : HO} (q : argH K h A b = some u) : b ∈ A ∧ K.lookup b = none := by
  unfold argH at q
  by_cases hb : b ∈ A
  · rw [if_pos hb] at q
    cases hk : K.lookup b with
    | none => exact ⟨hb, rfl⟩
    | some o =>
      rw [hk, if_neg (by simp)] at q
      cases q
  · rw [if_neg hb] at q
    cases q
/-- what stands tracked -/
theorem argH_is (ar : ∀ a ∈ A, ArgOb h A a) {b : Addr} {u : HO} (q : argH K h A b = some u) : K.lookup b = none ∧ ∃ vs : List Value, vs.length ≤ sizeLine ∧ (∀ u ∈ vs, OkU A u) ∧
    ((h.get? b = some { cls := .type "list", data := .seq vs.toArray } ∧ u = .frz { cls := .type "list", data := .seq vs.toArray } (.lst (vs.map toV))) ∨
     (h.get? b = some { cls := .type "tuple", data := .seq vs.toArray } ∧ u = .frz { cls := .type "tuple", data := .seq vs.toArray } (.tup (vs.map toV)))) := by
  obtain ⟨hb, hk⟩ := of_argH q
  obtain ⟨vs, h1, h2, h3⟩ := ar b hb
  refine ⟨hk, vs, h1, h2, ?_⟩
  rcases h3 with e | e
  · rw [argH_at hb hk e, hoOf_lst] at q
    exact .inl ⟨e, (Option.some.inj q).symm⟩
  · rw [argH_at hb hk e, hoOf_tup] at q
    exact .inr ⟨e, (Option.some.inj q).symm⟩
theorem argH_only (ar : ∀ a ∈ A, ArgOb h A a) : OnlyF (argH K h A) := fun b => by
  cases q : argH K h A b with
  | none => exact .inl rfl
  | some u =>
    obtain ⟨_, vs, _, _, ⟨_, e⟩ | ⟨_, e⟩⟩ := argH_is ar q
    · exact .inr ⟨_, _, by rw [e]⟩
    · exact .inr ⟨_, _, by rw [e]⟩
theorem argH_ok (ar : ∀ a ∈ A, ArgOb h A a) : HOk P w (argH K h A) h := fun b u q => by
  obtain ⟨_, vs, h1, h2, ⟨e, rfl⟩ | ⟨e, rfl⟩⟩ := argH_is ar q
  · exact ⟨e, by rw [List.length_map]; exact h1, vs, _, vals_toV h2, e⟩
  · exact ⟨e, by rw [List.length_map]; exact h1, vs, vals_toV h2, _, e, rfl, _, rfl⟩
theorem seq_inj {c c' : Value} {vs us : List Value} (e : (some { cls := c, data := .seq vs.toArray } : Option Obj) = some { cls := c', data := .seq us.toArray }) : c = c' ∧ vs = us := by
  have e1 := Option.some.inj e
  have e2 : c = c' := congrArg Obj.cls e1
  have e3 : Data.seq vs.toArray = Data.seq us.toArray := congrArg Obj.data e1
  injection e3 with e4
  refine ⟨e2, ?_⟩
  have e5 := congrArg Array.toList e4
  simpa using e5
/-- a list argument -/
theorem argL (KX : K.In h) (ar : ∀ a ∈ A, ArgOb h A a) {a : Addr} {vs : List Value} (ha : a ∈ A) (e : h.get? a = some { cls := .type "list", data := .seq vs.toArray }) : (∀ u ∈ vs, OkU A u) ∧ SqL K (argH K h A) a (vs.map toV) := by
  obtain ⟨us, h1, h2, h3⟩ := ar a ha
  have hu : us = vs := by
    rcases h3 with q | q
    · rw [e] at q
      exact (seq_inj q).2.symm
    · rw [e] at q
      exact absurd (Value.type.inj (seq_inj q).1) (by decide)
  subst hu
  refine ⟨h2, ?_⟩
  cases hk : K.lookup a with
  | none => exact .inl (.inr ⟨_, by rw [argH_at ha hk e, hoOf_lst]⟩)
  | some o =>
    have e2 := KX a o hk
    rw [e] at e2
    obtain rfl := Option.some.inj e2
    exact .inr ⟨_, us.toArray, _, hk, rfl, rfl, rfl, by rw [List.size_toArray]; exact h1, by simpa using vals_toV h2⟩
theorem argT (KX : K.In h) (ar : ∀ a ∈ A, ArgOb h A a) {a : Addr} {vs : List Value} (ha : a ∈ A) (e : h.get? a = some { cls := .type "tuple", data := .seq vs.toArray }) : (∀ u ∈ vs, OkU A u) ∧ SqT K (argH K h A) a (vs.map toV) := by
  obtain ⟨us, h1, h2, h3⟩ := ar a ha
  have hu : us = vs := by
    rcases h3 with q | q
    · rw [e] at q
      exact absurd (Value.type.inj (seq_inj q).1) (by decide)
    · rw [e] at q
      exact (seq_inj q).2.symm
  subst hu
  refine ⟨h2, ?_⟩
  cases hk : K.lookup a with
  | none => exact .inl (.inr ⟨_, by rw [argH_at ha hk e, hoOf_tup]⟩)
  | some o =>
    have e2 := KX a o hk
    rw [e] at e2
    obtain rfl := Option.some.inj e2
    exact .inr ⟨_, us.toArray, _, hk, rfl, rfl, by rw [List.size_toArray]; exact h1, by simpa using vals_toV h2⟩
mutual
theorem dw_one {Pm : Params} (KX : K.In h) (ar : ∀ a ∈ A, ArgOb h A a) : ∀ (d : WData) (v : Value), Well Pm h v d → plW d = true → OkU A v → Dw K (argH K h A) (toV v) d
  | .none, _, x, _, _ => by
    cases x
    exact .non
  | .bool b, _, x, _, _ => by
    cases x
    exact .bl b
  | .int i, _, x, _, _ => by
    cases x
    exact .int i
  | .str s, _, x, _, _ => by
    cases x
    exact .str s
  | .bytes b, _, x, _, _ => by
    cases x
    have z := Dw.byt (K := K) (H := argH K h A) b.toArray
    exact z
  | .list ds, _, x, p, hu => by
    obtain ⟨a, vs, rfl, ho, hall⟩ := well_list x
    obtain ⟨h2, hs⟩ := argL KX ar hu ho
    exact .lst hs (dw_all KX ar ds _ hall p h2)
  | .tuple ds, _, x, p, hu => by
    obtain ⟨a, vs, rfl, ho, hall⟩ := well_tuple x
    obtain ⟨h2, hs⟩ := argT KX ar hu ho
    exact .tup hs (dw_all KX ar ds _ hall p h2)
  | .float _, _, _, p, _ => Bool.noConfusion (show false = true from p)
  | .dict _, _, _, p, _ => Bool.noConfusion (show false = true from p)
  | .bytearray _, _, _, p, _ => Bool.noConfusion (show false = true from p)
  | .set _, _, _, p, _ => Bool.noConfusion (show false = true from p)
  | .frozenset _, _, _, p, _ => Bool.noConfusion (show false = true from p)
  | .obj _ _, _, _, p, _ => Bool.noConfusion (show false = true from p)
theorem dw_all {Pm : Params} (KX : K.In h) (ar : ∀ a ∈ A, ArgOb h A a) : ∀ (ds : List WData) (vs : List Value), WellAll Pm h vs ds → plWs ds = true → (∀ u ∈ vs, OkU A u) → DwAll K (argH K h A) (vs.map toV) ds
  | [], _, x, _, _ => by
    cases x
    exact .nil
  | d :: ds, _, x, p, hu => by
    obtain ⟨v, vs, rfl, x1, x2⟩ := well_cons x
    have q : plW d = true ∧ plWs ds = true := Bool.and_eq_true_iff.mp p
    exact .cons (dw_one KX ar d v x1 q.1 (hu _ (List.mem_cons_self ..))) (dw_all KX ar ds vs x2 q.2 fun u m => hu u (List.mem_cons_of_mem _ m))
end
end
/-! ### the call -/
theorem spec_call {P : Program} {w : World} {K : PySem.W.Frag} {mg mb : Str → Option Value} {CX : CXT} {k : Nat} {fa : Addr} {fd : FuncData} {ps : List Str} {sp : Sp} {s₁ : Shared} {vals : List Value} {ds : List WData} {R : PySem.W.WRecords} {cl : Str → Option Addr} {d0 : WData}
    (KX : K.In s₁.heap) (hns : s₁.heap.Ns mainGlobals mg) (hb : s₁.heap.Ns builtinsNs mb) (hbb : ∀ x : Str, x ≠ "__name__" → mb x = bootBuiltins x) (hlim : s₁.heap.NoLimit) (hg : s₁.gens = #[])
    (hwl : WellAll w.params s₁.heap vals ds) (hpl : plWs ds = true) (hwt : ∀ d ∈ ds, d.weight ≤ 1048576) (hr : Room k callerA)
    (F : ∀ base : Heap, K.In base → base.Ns mainGlobals mg → FnOk P w K mg base CX k fa fd ps sp) (hbind : ∀ (s : Shared) (us : List Value), us.length = ps.length → BindsTo s fd ⟨us, []⟩ (ps.zip us)) (hlen : ds.length = ps.length)
    (hsp : ∀ (H : Hp) (xs : List V), OnlyF H → DwAll K H xs ds → sp xs H (fun v H' => Dw K H' v d0) fun _ _ _ => False)
    (hCX : ∀ H e s', CX [] H s₁ (fun _ _ _ => False) e s' → False) :
    codeAny (model P w) callerA (.call (.ref fa) ⟨vals, []⟩) (fun r s' => ∃ u as, r = .ok (.ret u) ∧ ReadsW R cl s'.heap u d0 as ∧ OldK s₁.heap s'.heap ∧ s'.os = s₁.os ∧ AllBare s'.gens) s₁ := by
  obtain ⟨A, ho, ar⟩ := area_all ds vals hwl hpl hwt
  have hO : OnlyF (argH K s₁.heap A) := argH_only ar
  have hok : HOk P w (argH K s₁.heap A) s₁.heap := argH_ok ar
  have hS := dw_all KX ar ds vals hwl hpl ho
  have hV := vals_toV ho
  have hK : ∀ b u, argH K s₁.heap A b = some u → K.lookup b = none := fun b u q => (argH_is ar q).1
  have noA : ∀ {b : Addr} {o : Obj} {es : Array DictEntry} {ep : Nat}, s₁.heap.get? b = some o → o.data = .dict es ep → argH K s₁.heap A b = none := fun {b o es ep} e d => by
    cases q : argH K s₁.heap A b with
    | none => rfl
    | some u =>
      obtain ⟨_, vs, _, _, ⟨e2, _⟩ | ⟨e2, _⟩⟩ := argH_is ar q
      · rw [e2] at e
        cases e
        have d' : Data.seq vs.toArray _ = Data.dict es ep := d
        cases d'
      · rw [e2] at e
        cases e
        have d' : Data.seq vs.toArray _ = Data.dict es ep := d
        cases d'
  generalize argH K s₁.heap A = H at hO hok hS hK noA
  have base_of : ∀ {b : Addr} {o : Obj}, s₁.heap.get? b = some o → H b = none → (hidT s₁.heap H).get? b = some o := fun e n => hidT_get e n
  have nsK : ∀ {b : Addr} {m : Str → Option Value}, s₁.heap.Ns b m → (hidT s₁.heap H).Ns b m := fun {b m} ⟨o, es, ep, e, d, r⟩ => ⟨o, es, ep, base_of e (noA e d), d, r⟩
  have nK : ∀ b o, K.lookup b = some o → H b = none := fun b o e => by
    cases q : H b with
    | none => rfl
    | some u =>
      rw [hK b u q] at e
      cases e
  have hKb : K.In (hidT s₁.heap H) := fun b o e => base_of (KX b o e) (nK b o e)
  have hM : Mod K mg (hidT s₁.heap H) := ⟨hKb, nsK hns, ⟨mb, nsK hb, hbb⟩, let ⟨mc, h1, h2⟩ := hlim; ⟨mc, nsK h1, h2⟩⟩
  have e0 : Env0 P w K mg (hidT s₁.heap H) callerA [] s₁ H := ⟨rfl, hM, fun b o e => of_hidT e, Nat.le_of_eq (hidT_size _ _), trivial, fun b hb => absurd (show b ∈ ([] : List Addr) from hb) (by simp), hok, .of_eq hg⟩
  have hl : vals.length = ps.length := by rw [wellAll_len hwl]; exact hlen
  refine codeAny_mono ((F _ hKb (nsK hns)).run callerA [] s₁ H ⟨vals, []⟩ vals (vals.map toV) _ _ hr e0 (hbind s₁ vals hl) hV (hsp H _ hO hS)) fun r s' x => ?_
  cases r with
  | error e => exact (hCX H e s' x).elim
  | ok fl =>
    cases fl with
    | next => exact False.elim x
    | brk => exact False.elim x
    | cont => exact False.elim x
    | ret u =>
      obtain ⟨v, H', os, bare, un, hok', r', q⟩ := x
      have kept : ∀ b o, s₁.heap.get? b = some o → s'.heap.get? b = some o := fun b o e => by
        cases q2 : H b with
        | none => exact un.keep b o e q2 (by intro z; exact absurd (show b ∈ ([] : List Addr) from z) (by simp)) (by simp)
        | some u2 =>
          rcases hO b with z | ⟨ob, u3, z⟩
          · rw [q2] at z
            cases z
          · have z2 := un.frzs b ob _ z
            obtain ⟨e1, _⟩ := hok b _ z
            obtain ⟨e2, _⟩ := hok' b _ z2
            rw [e] at e1
            cases e1
            exact e2
      have KX' : K.In s'.heap := fun b o e => kept b o (KX b o e)
      obtain ⟨as, hrd⟩ := Dw.reads (R := R) (cl := cl) hok' KX' d0 v u q r'
      exact ⟨u, as, rfl, hrd, OldK.of_keep kept, os, bare⟩
/-! ### the row -/
theorem layable_weight {ds : List WData} (h : WData.layableAll ds = true) : ∀ d ∈ ds, d.weight ≤ 1048576 := fun d hd =>
  (PySem.W.layableW_iff.mp (List.all_eq_true.mp h d hd)).2.2
theorem encAll_len : ∀ (cs : List Codec) (a : Codec.denoteAll cs), (Codec.encAll cs a).length = cs.length
  | [], _ => rfl
  | c :: cs, a => by
    show (Codec.encAll cs a.2).length + 1 = cs.length + 1
    rw [encAll_len cs a.2]
/-- the goal that k_headS leaves (case hc), from the promise of the row's def: whatever the arguments that the codecs let and the row asks for, the def gives what stands for enc (f ..) -/
theorem walk_spec {r : OpenSpec} {k : Nat} {q : Program} {loose : List Str} {XP : (Str → Option Value) → Heap → Prop} {YP : World → Heap → Prop} {d : DefRec} {K : Params → PySem.W.Frag} {CX : World → CXT} {ps : List Str} {sp : World → Sp}
    (hwell : r.wellSaid = true) (hdf : d.params.defaults = []) (hlen : r.args.length = ps.length) (hr : Room k callerA)
    (hY : ∀ (w : World) (h : Heap), YP w h → (K w.params).In h)
    (F : ∀ (w : World) (mg : Str → Option Value) (fa : Addr) (h : Heap), YP w h → (K w.params).In h → h.Ns mainGlobals mg → mg d.name = some (.ref fa) →
      ∃ fd : FuncData, (∀ (s : Shared) (us : List Value), us.length = ps.length → BindsTo s fd ⟨us, []⟩ (ps.zip us)) ∧
        ∀ base : Heap, (K w.params).In base → base.Ns mainGlobals mg → FnOk r.prog w (K w.params) mg base (CX w) k fa fd ps (sp w))
    (hsp : ∀ (w : World) (H : Hp) (xs : List V) (a : Codec.denoteAll r.args), OnlyF H → Codec.withinAll r.args a = true → Codec.app r.args r.asked a = true → DwAll (K w.params) H xs (Codec.encAll r.args a) →
      sp w xs H (fun v H' => Dw (K w.params) H' v (r.ret.enc (Codec.app r.args r.f a))) fun _ _ _ => False)
    (hCX : ∀ (w : World) (H : Hp) (s : Shared) (e : Value) (s' : Shared), CX w [] H s (fun _ _ _ => False) e s' → False) :
    PySem.W.WalkOS q loose XP YP r d [] (fun f vs => PySem.call f vs) := by
  intro w s_0 s₁ mg mb G Y fa o pm cd doc dV kV ho hd hcd hD hmg hg args vals as hpre hlay hrd hwl hlo
  obtain ⟨a, e1, e2⟩ := PySem.W.os_pre_some hpre
  obtain ⟨e3, hwi⟩ := Codec.encAll_of_decAll r.args args a e1
  subst e3
  have KX := hY w _ Y
  obtain ⟨fd, hb, hF⟩ := F w mg fa _ Y KX G.T.g hmg
  refine PySem.W.enter_call (codeAny_mono (spec_call (R := []) (cl := classAt s_0.heap) (d0 := r.ret.enc (Codec.app r.args r.f a)) KX G.T.g G.T.b G.T.builtins G.T.nolimit hg hwl (pl_encAll _ _) (layable_weight hlay) hr hF hb (by rw [encAll_len]; exact hlen)
    (fun H xs hO hS => hsp w H xs a hO hwi e2 hS) fun H e s' => hCX w H s₁ e s') fun r' s' hq => ?_)
  obtain ⟨u, as', rfl, h1, h2, h3, h4⟩ := hq
  exact ⟨.inl ⟨u, _, as', rfl, fun _ => rfl, h1, (OpenSpec.post_iff hwell hwi _ _).mpr rfl, fun z => Bool.noConfusion (show false = true from z)⟩, h2, h3, h4⟩
/-- the same where the promise hangs on the written part alone -/
theorem walk_specK {r : OpenSpec} {k : Nat} {q : Program} {loose : List Str} {XP : (Str → Option Value) → Heap → Prop} {YP : World → Heap → Prop} {d : DefRec} {K : Params → PySem.W.Frag} {CX : CXT} {ps : List Str} {sp : PySem.W.Frag → Sp}
    (hwell : r.wellSaid = true) (hdf : d.params.defaults = []) (hlen : r.args.length = ps.length) (hr : Room k callerA)
    (hY : ∀ (w : World) (h : Heap), YP w h → (K w.params).In h)
    (F : ∀ (w : World) (mg : Str → Option Value) (fa : Addr) (h : Heap), YP w h → (K w.params).In h → h.Ns mainGlobals mg → mg d.name = some (.ref fa) →
      ∃ fd : FuncData, (∀ (s : Shared) (us : List Value), us.length = ps.length → BindsTo s fd ⟨us, []⟩ (ps.zip us)) ∧
        ∀ base : Heap, (K w.params).In base → base.Ns mainGlobals mg → FnOk r.prog w (K w.params) mg base CX k fa fd ps (sp (K w.params)))
    (hsp : ∀ (K : PySem.W.Frag) (H : Hp) (xs : List V) (a : Codec.denoteAll r.args), OnlyF H → Codec.withinAll r.args a = true → Codec.app r.args r.asked a = true → DwAll K H xs (Codec.encAll r.args a) →
      sp K xs H (fun v H' => Dw K H' v (r.ret.enc (Codec.app r.args r.f a))) fun _ _ _ => False)
    (hCX : ∀ (H : Hp) (s : Shared) (e : Value) (s' : Shared), CX [] H s (fun _ _ _ => False) e s' → False) :
    PySem.W.WalkOS q loose XP YP r d [] (fun f vs => PySem.call f vs) :=
  walk_spec (K := K) (CX := fun _ => CX) (sp := fun w => sp (K w.params)) hwell hdf hlen hr hY F (fun w H xs a h1 h2 h3 h4 => hsp (K w.params) H xs a h1 h2 h3 h4) fun _ H s e s' => hCX H s e s'
end L2
-- rests on (row put in by the clerk, for the bench that shows a file only what it spells): KE.SpHead KE.OsShapes
end
end

section
set_option Elab.async false
set_option linter.all false
namespace LF
open Kct0
/-! ### the mathematics: a stretch of legs -/
structure Stt where
  src : Nat
  to : Nat
  dep : Nat
  arr : Nat
  early : Nat
  late : Nat
  breaks : Nat
  passed : List Nat
def st1 (l : Leg) : Stt := ⟨l.from_, l.to_, l.dep, l.arr, l.dep % DAY, l.dep % DAY, 0, []⟩
def grow (s : Stt) (l : Leg) : Stt :=
  ⟨s.src, l.to_, s.dep, l.arr, min s.early (l.dep % DAY), max s.late (l.dep % DAY), if s.arr + PAUSE < l.dep then s.breaks + 1 else s.breaks, s.passed ++ [s.to]⟩
def cov (f : Fare) (s : Stt) : Bool :=
  f.from_ == s.src && (f.to_ == s.to && (decide (f.first ≤ s.early) && (decide (s.late ≤ f.last) && (decide (s.arr ≤ s.dep + f.long) && (decide (s.breaks ≤ f.breaks) && (f.via == ANY || s.passed.any (fun x => x == f.via)))))))
def pz : Nat → List Leg → Nat
  | _, [] => 0
  | a, y :: l => (if a + PAUSE < y.dep then 1 else 0) + pz y.arr l
def ps : Nat → List Leg → List Nat
  | _, [] => []
  | t, y :: l => t :: ps y.to_ l
theorem pauses_pz : ∀ (x : Leg) (l : List Leg), pauses (x :: l) = pz x.arr l
  | _, [] => rfl
  | x, y :: l => by show _ + pauses (y :: l) = _ + pz y.arr l; rw [pauses_pz y l]
theorem drop_ps : ∀ (x : Leg) (l : List Leg), (x :: l).dropLast.map (·.to_) = ps x.to_ l
  | _, [] => rfl
  | x, y :: l => by show x.to_ :: (y :: l).dropLast.map (·.to_) = x.to_ :: ps y.to_ l; rw [drop_ps y l]
theorem g_src : ∀ (l : List Leg) (s : Stt), (l.foldl grow s).src = s.src ∧ (l.foldl grow s).dep = s.dep
  | [], _ => ⟨rfl, rfl⟩
  | y :: l, s => g_src l (grow s y)
theorem g_last : ∀ (l : List Leg) (s : Stt), (l.foldl grow s).to = (l.getLast?.elim s.to (·.to_)) ∧ (l.foldl grow s).arr = (l.getLast?.elim s.arr (·.arr))
  | [], _ => ⟨rfl, rfl⟩
  | y :: l, s => by
    have h := g_last l (grow s y)
    rw [List.foldl_cons, h.1, h.2]
    cases l with
    | nil => exact ⟨rfl, rfl⟩
    | cons z r =>
      rw [List.getLast?_cons_cons]
      have e : (z :: r).getLast? = some ((z :: r).getLast (by simp)) := List.getLast?_eq_some_getLast (by simp)
      rw [e]
      exact ⟨rfl, rfl⟩
theorem g_early (n : Nat) : ∀ (l : List Leg) (s : Stt), n ≤ (l.foldl grow s).early ↔ (n ≤ s.early ∧ ∀ y ∈ l, n ≤ y.dep % DAY)
  | [], s => by simp
  | y :: l, s => by
    rw [List.foldl_cons, g_early n l (grow s y)]
    show n ≤ min s.early (y.dep % DAY) ∧ _ ↔ _
    rw [Nat.le_min]
    simp only [List.mem_cons, forall_eq_or_imp, and_assoc]
theorem g_late (n : Nat) : ∀ (l : List Leg) (s : Stt), (l.foldl grow s).late ≤ n ↔ (s.late ≤ n ∧ ∀ y ∈ l, y.dep % DAY ≤ n)
  | [], s => by simp
  | y :: l, s => by
    rw [List.foldl_cons, g_late n l (grow s y)]
    show max s.late (y.dep % DAY) ≤ n ∧ _ ↔ _
    rw [Nat.max_le]
    simp only [List.mem_cons, forall_eq_or_imp, and_assoc]
theorem g_breaks : ∀ (l : List Leg) (s : Stt), (l.foldl grow s).breaks = s.breaks + pz s.arr l
  | [], s => rfl
  | y :: l, s => by
    rw [List.foldl_cons, g_breaks l (grow s y)]
    show (if s.arr + PAUSE < y.dep then s.breaks + 1 else s.breaks) + pz y.arr l = s.breaks + ((if s.arr + PAUSE < y.dep then 1 else 0) + pz y.arr l)
    split <;> omega
theorem g_passed : ∀ (l : List Leg) (s : Stt), (l.foldl grow s).passed = s.passed ++ ps s.to l
  | [], s => (List.append_nil _).symm
  | y :: l, s => by
    rw [List.foldl_cons, g_passed l (grow s y)]
    show (s.passed ++ [s.to]) ++ ps y.to_ l = s.passed ++ (s.to :: ps y.to_ l)
    rw [List.append_assoc]; rfl
theorem last_cons : ∀ (x : Leg) (l : List Leg), ∃ z, (x :: l).getLast? = some z ∧ l.getLast?.elim x.to_ (·.to_) = z.to_ ∧ l.getLast?.elim x.arr (·.arr) = z.arr
  | x, [] => ⟨x, rfl, rfl, rfl⟩
  | x, y :: l => by
    obtain ⟨z, h1, _, _⟩ := last_cons y l
    refine ⟨z, by rw [List.getLast?_cons_cons]; exact h1, ?_, ?_⟩ <;> rw [h1] <;> rfl
theorem cov_eq (f : Fare) (x : Leg) (l : List Leg) : covers f (x :: l) = (f.open_ && cov f (l.foldl grow (st1 x))) := by
  obtain ⟨z, h1, h2, h3⟩ := last_cons x l
  unfold covers
  rw [List.head?_cons, h1]
  unfold cov
  have e1 := (g_src l (st1 x)).1
  have e2 := (g_src l (st1 x)).2
  have e3 := (g_last l (st1 x)).1
  have e4 := (g_last l (st1 x)).2
  have e5 := g_breaks l (st1 x)
  have e6 := g_passed l (st1 x)
  have e7 : decide (f.first ≤ (l.foldl grow (st1 x)).early) = (x :: l).all (fun x => decide (f.first ≤ x.dep % DAY)) := by
    rw [Bool.eq_iff_iff, decide_eq_true_iff, List.all_eq_true, g_early]
    simp only [List.mem_cons, forall_eq_or_imp, decide_eq_true_iff]
    exact Iff.rfl
  have e8 : decide ((l.foldl grow (st1 x)).late ≤ f.last) = (x :: l).all (fun x => decide (x.dep % DAY ≤ f.last)) := by
    rw [Bool.eq_iff_iff, decide_eq_true_iff, List.all_eq_true, g_late]
    simp only [List.mem_cons, forall_eq_or_imp, decide_eq_true_iff]
    exact Iff.rfl
  have e9 : ((x :: l).dropLast.any fun x => x.to_ == f.via) = (l.foldl grow (st1 x)).passed.any (fun y => y == f.via) := by
    rw [e6]
    show _ = List.any (ps x.to_ l) _
    rw [← drop_ps x l, List.any_map]; rfl
  have e10 : (x :: l).all (fun x => decide (f.first ≤ x.dep % DAY) && decide (x.dep % DAY ≤ f.last)) = ((x :: l).all (fun x => decide (f.first ≤ x.dep % DAY)) && (x :: l).all (fun x => decide (x.dep % DAY ≤ f.last))) := by
    rw [Bool.eq_iff_iff, Bool.and_eq_true, List.all_eq_true, List.all_eq_true, List.all_eq_true]
    constructor
    · intro h
      exact ⟨fun y hy => (Bool.and_eq_true_iff.mp (h y hy)).1, fun y hy => (Bool.and_eq_true_iff.mp (h y hy)).2⟩
    · intro h y hy
      exact Bool.and_eq_true_iff.mpr ⟨h.1 y hy, h.2 y hy⟩
  dsimp only
  rw [e7, e8, ← e9, e10, e1, e2, e3, e4, e5]
  have e11 : (st1 x).breaks + pz (st1 x).arr l = pauses (x :: l) := by rw [pauses_pz]; exact Nat.zero_add _
  rw [e11]
  show _ = (f.open_ && (f.from_ == x.from_ && (f.to_ == l.getLast?.elim x.to_ (·.to_) && _)))
  show _ = (f.open_ && (f.from_ == x.from_ && (f.to_ == l.getLast?.elim x.to_ (·.to_) && (_ && (_ && (decide (l.getLast?.elim x.arr (·.arr) ≤ x.dep + f.long) && _))))))
  rw [h2, h3, Bool.beq_comm (a := x.from_), Bool.beq_comm (a := z.to_)]
  cases f.open_ <;> cases (f.from_ == x.from_) <;> cases (f.to_ == z.to_) <;> cases ((x :: l).all (fun x => decide (f.first ≤ x.dep % DAY))) <;> cases ((x :: l).all (fun x => decide (x.dep % DAY ≤ f.last))) <;> cases (decide (z.arr ≤ x.dep + f.long)) <;> cases (decide (pauses (x :: l) ≤ f.breaks)) <;> cases (f.via == ANY || ((x :: l).dropLast.any fun x => x.to_ == f.via)) <;> rfl

/-! ### the mathematics: the best ticket for a stretch -/
def offsFrom (c : Card) : Nat → List Fare → List (Nat × Nat)
  | _, [] => []
  | i, f :: r => if f.open_ then (costs c f, i) :: offsFrom c (i + 1) r else offsFrom c (i + 1) r
def olt (a b : Nat × Nat) : Bool := decide (a.1 < b.1) || (a.1 == b.1 && decide (a.2 < b.2))
/-- sorted as Python sorts pairs -/
structure Offs (c : Card) (fs : List Fare) (os : List (Nat × Nat)) : Prop where
  perm : os.Perm (offsFrom c 0 fs)
  sorted : os.Pairwise fun a b => olt b a = false
theorem mem_offs {c : Card} : ∀ {fs : List Fare} {j : Nat} {o : Nat × Nat}, o ∈ offsFrom c j fs ↔ ∃ (i : Nat) (f : Fare), fs[i]? = some f ∧ f.open_ = true ∧ o = (costs c f, j + i)
  | [], j, o => by simp [offsFrom]
  | f :: r, j, o => by
    have ih := mem_offs (c := c) (fs := r) (j := j + 1) (o := o)
    have hr : (∃ (i : Nat) (g : Fare), r[i]? = some g ∧ g.open_ = true ∧ o = (costs c g, j + 1 + i)) ↔ ∃ (i : Nat) (g : Fare), (f :: r)[i + 1]? = some g ∧ g.open_ = true ∧ o = (costs c g, j + (i + 1)) := by
      constructor
      · rintro ⟨i, g, h1, h2, h3⟩
        exact ⟨i, g, by simpa using h1, h2, by rw [h3]; congr 1; omega⟩
      · rintro ⟨i, g, h1, h2, h3⟩
        exact ⟨i, g, by simpa using h1, h2, by rw [h3]; congr 1; omega⟩
    unfold offsFrom
    cases hf : f.open_ with
    | true =>
      rw [if_pos rfl, List.mem_cons, ih, hr]
      constructor
      · rintro (h | ⟨i, g, h1, h2, h3⟩)
        · exact ⟨0, f, rfl, hf, h⟩
        · exact ⟨i + 1, g, h1, h2, h3⟩
      · rintro ⟨i, g, h1, h2, h3⟩
        cases i with
        | zero =>
          have e : f = g := by simpa using h1
          subst e
          exact .inl h3
        | succ i => exact .inr ⟨i, g, h1, h2, h3⟩
    | false =>
      rw [if_neg Bool.false_ne_true, ih, hr]
      constructor
      · rintro ⟨i, g, h1, h2, h3⟩
        exact ⟨i + 1, g, h1, h2, h3⟩
      · rintro ⟨i, g, h1, h2, h3⟩
        cases i with
        | zero =>
          have e : f = g := by simpa using h1
          subst e
          rw [hf] at h2
          cases h2
        | succ i => exact ⟨i, g, h1, h2, h3⟩
def covAt (fs : List Fare) (s : Stt) (o : Nat × Nat) : Bool := (fs[o.2]?).any fun f => cov f s
def bestOff (fs : List Fare) (os : List (Nat × Nat)) (s : Stt) : Option (Nat × Nat) := os.find? (covAt fs s)
/-- a ticket that could be had -/
def Can (c : Card) (fs : List Fare) (s : Stt) (o : Nat × Nat) : Prop := ∃ f, fs[o.2]? = some f ∧ f.open_ = true ∧ cov f s = true ∧ o.1 = costs c f
theorem can_mem {c : Card} {fs : List Fare} {s : Stt} {o : Nat × Nat} : Can c fs s o ↔ o ∈ offsFrom c 0 fs ∧ covAt fs s o = true := by
  rw [mem_offs]
  unfold covAt
  constructor
  · rintro ⟨f, h1, h2, h3, h4⟩
    refine ⟨⟨o.2, f, h1, h2, ?_⟩, by rw [h1]; exact h3⟩
    rw [Nat.zero_add, ← h4]
  · rintro ⟨⟨i, f, h1, h2, h3⟩, h4⟩
    have e2 : o.2 = i := by rw [h3]; exact Nat.zero_add _
    have e1 : o.1 = costs c f := by rw [h3]
    rw [e2, h1] at h4
    exact ⟨f, by rw [e2]; exact h1, h2, h4, e1⟩
structure Best (S : Nat × Nat → Prop) (o : Nat × Nat) : Prop where
  is : S o
  least : ∀ o', S o' → olt o' o = false
theorem olt_total {a b : Nat × Nat} (h1 : olt a b = false) (h2 : olt b a = false) : a = b := by
  unfold olt at h1 h2
  rw [Bool.or_eq_false_iff, decide_eq_false_iff_not] at h1 h2
  have e : a.1 = b.1 := by omega
  obtain ⟨_, h3⟩ := h1
  obtain ⟨_, h4⟩ := h2
  rw [e, beq_self_eq_true, Bool.true_and, decide_eq_false_iff_not] at h3 h4
  exact Prod.ext e (by omega)
theorem olt_irrefl (a : Nat × Nat) : olt a a = false := by unfold olt; simp
theorem Best.one {S : Nat × Nat → Prop} {a b : Nat × Nat} (h : Best S a) (k : Best S b) : a = b := olt_total (k.least a h.is) (h.least b k.is)
theorem find_best {p : Nat × Nat → Bool} : ∀ {os : List (Nat × Nat)}, (os.Pairwise fun a b => olt b a = false) →
    (os.find? p = none ∧ ∀ o ∈ os, p o = false) ∨ ∃ o, os.find? p = some o ∧ Best (fun o => o ∈ os ∧ p o = true) o
  | [], _ => .inl ⟨rfl, fun o h => by cases h⟩
  | a :: r, h => by
    obtain ⟨h1, h2⟩ := List.pairwise_cons.mp h
    cases e : p a with
    | true =>
      refine .inr ⟨a, by rw [List.find?_cons, e], ⟨List.mem_cons_self .., e⟩, fun o' ho => ?_⟩
      rcases List.mem_cons.mp ho.1 with q | q
      · rw [q]; exact olt_irrefl a
      · exact h1 o' q
    | false =>
      rcases find_best (p := p) h2 with ⟨e1, e2⟩ | ⟨o, e1, B⟩
      · refine .inl ⟨by rw [List.find?_cons, e]; exact e1, fun o ho => ?_⟩
        rcases List.mem_cons.mp ho with q | q
        · rw [q]; exact e
        · exact e2 o q
      · refine .inr ⟨o, by rw [List.find?_cons, e]; exact e1, ⟨List.mem_cons_of_mem _ B.is.1, B.is.2⟩, fun o' ho => ?_⟩
        rcases List.mem_cons.mp ho.1 with q | q
        · rw [q] at ho; rw [ho.2] at e; cases e
        · exact B.least o' ⟨q, ho.2⟩
theorem bestOff_is {c : Card} {fs : List Fare} {os : List (Nat × Nat)} {s : Stt} (O : Offs c fs os) :
    (bestOff fs os s = none ∧ ∀ o, ¬ Can c fs s o) ∨ ∃ o, bestOff fs os s = some o ∧ Best (Can c fs s) o := by
  rcases find_best (p := covAt fs s) O.sorted with ⟨e1, e2⟩ | ⟨o, e1, B⟩
  · refine .inl ⟨e1, fun o ho => ?_⟩
    obtain ⟨h1, h2⟩ := can_mem.mp ho
    rw [e2 o (O.perm.mem_iff.mpr h1)] at h2
    cases h2
  · refine .inr ⟨o, e1, can_mem.mpr ⟨O.perm.mem_iff.mp B.is.1, B.is.2⟩, fun o' ho => ?_⟩
    obtain ⟨h1, h2⟩ := can_mem.mp ho
    exact B.least o' ⟨O.perm.mem_iff.mpr h1, h2⟩
def planOf (r : Plan) (n : Nat) (o : Nat × Nat) : Plan := ⟨o.1 + r.cost, (o.2, n) :: r.tickets⟩
theorem better_planOf (r : Plan) (n : Nat) (a b : Nat × Nat) : better (planOf r n a) (planOf r n b) = olt a b := by
  unfold better planOf olt firstOf
  simp only [List.length_cons, List.head?_cons, beq_self_eq_true, Bool.true_and, Nat.lt_irrefl, decide_false, Bool.false_or]
  have e1 : decide (a.1 + r.cost < b.1 + r.cost) = decide (a.1 < b.1) := by rw [Bool.eq_iff_iff, decide_eq_true_iff, decide_eq_true_iff]; omega
  have e2 : (a.1 + r.cost == b.1 + r.cost) = (a.1 == b.1) := by rw [Bool.eq_iff_iff, beq_iff_eq, beq_iff_eq]; omega
  rw [e1, e2]
def wtStep (fs : List Fare) (c : Card) (sg : List Leg) (n : Nat) (r : Plan) (a : Option Plan) (i : Nat) : Option Plan := match fs[i]? with
  | some f => if covers f sg then pick a (some ⟨costs c f + r.cost, (i, n) :: r.tickets⟩) else a
  | none => a
theorem wt_fold {fs : List Fare} {c : Card} {x : Leg} {l : List Leg} {n : Nat} {r : Plan} : ∀ j : Nat,
    ((List.range j).foldl (wtStep fs c (x :: l) n r) none = none ∧ ∀ o, o.2 < j → ¬ Can c fs (l.foldl grow (st1 x)) o) ∨
    ∃ o, (List.range j).foldl (wtStep fs c (x :: l) n r) none = some (planOf r n o) ∧ Best (fun o => o.2 < j ∧ Can c fs (l.foldl grow (st1 x)) o) o
  | 0 => .inl ⟨rfl, fun o h => absurd h (Nat.not_lt_zero _)⟩
  | j + 1 => by
    have ih := wt_fold (fs := fs) (c := c) (x := x) (l := l) (n := n) (r := r) j
    rw [List.range_succ, List.foldl_append]
    have case_no : (∀ o, o.2 = j → ¬ Can c fs (l.foldl grow (st1 x)) o) → (∀ a, wtStep fs c (x :: l) n r a j = a) →
        ((List.foldl (wtStep fs c (x :: l) n r) ((List.range j).foldl (wtStep fs c (x :: l) n r) none) [j]) = none ∧ ∀ o, o.2 < j + 1 → ¬ Can c fs (l.foldl grow (st1 x)) o) ∨
        ∃ o, (List.foldl (wtStep fs c (x :: l) n r) ((List.range j).foldl (wtStep fs c (x :: l) n r) none) [j]) = some (planOf r n o) ∧ Best (fun o => o.2 < j + 1 ∧ Can c fs (l.foldl grow (st1 x)) o) o := by
      intro hn hs
      rw [List.foldl_cons, List.foldl_nil, hs]
      rcases ih with ⟨e1, e2⟩ | ⟨o, e1, B⟩
      · refine .inl ⟨e1, fun o ho => ?_⟩
        by_cases q : o.2 = j
        · exact hn o q
        · exact e2 o (by omega)
      · refine .inr ⟨o, e1, ⟨by have := B.is.1; omega, B.is.2⟩, fun o' ho => ?_⟩
        by_cases q : o'.2 = j
        · exact absurd ho.2 (hn o' q)
        · exact B.least o' ⟨by have := ho.1; omega, ho.2⟩
    cases hf : fs[j]? with
    | none =>
      refine case_no (fun o ho => ?_) (fun a => by unfold wtStep; rw [hf])
      rintro ⟨f, h1, _⟩
      rw [ho, hf] at h1
      cases h1
    | some f =>
      cases hc : covers f (x :: l) with
      | false =>
        refine case_no (fun o ho => ?_) (fun a => by unfold wtStep; rw [hf]; simp only [hc, Bool.false_eq_true, if_false])
        rintro ⟨g, h1, h2, h3, _⟩
        rw [ho, hf] at h1
        cases h1
        rw [cov_eq, h2, h3] at hc
        cases hc
      | true =>
        have hc' := hc
        rw [cov_eq, Bool.and_eq_true] at hc'
        have can : Can c fs (l.foldl grow (st1 x)) (costs c f, j) := ⟨f, hf, hc'.1, hc'.2, rfl⟩
        have only : ∀ o : Nat × Nat, o.2 = j → Can c fs (l.foldl grow (st1 x)) o → o = (costs c f, j) := by
          rintro o ho ⟨g, h1, _, _, h4⟩
          rw [ho, hf] at h1
          cases h1
          exact Prod.ext h4 ho
        rw [List.foldl_cons, List.foldl_nil]
        have st : ∀ a, wtStep fs c (x :: l) n r a j = pick a (some (planOf r n (costs c f, j))) := fun a => by
          unfold wtStep
          rw [hf]
          simp only [hc, if_true]
          rfl
        rw [st]
        rcases ih with ⟨e1, e2⟩ | ⟨o, e1, B⟩
        · rw [e1]
          refine .inr ⟨(costs c f, j), rfl, ⟨Nat.lt_succ_self j, can⟩, fun o' ho => ?_⟩
          by_cases q : o'.2 = j
          · rw [only o' q ho.2]; exact olt_irrefl _
          · exact absurd ho.2 (e2 o' (by have := ho.1; omega))
        · rw [e1]
          have hp : pick (some (planOf r n o)) (some (planOf r n (costs c f, j))) = if olt (costs c f, j) o = true then some (planOf r n (costs c f, j)) else some (planOf r n o) := by
            show (if better _ _ = true then _ else _) = _
            rw [better_planOf]
          rw [hp]
          cases hb : olt (costs c f, j) o with
          | true =>
            rw [if_pos rfl]
            refine .inr ⟨(costs c f, j), rfl, ⟨Nat.lt_succ_self j, can⟩, fun o' ho => ?_⟩
            by_cases q : o'.2 = j
            · rw [only o' q ho.2]; exact olt_irrefl _
            · have h1 := B.least o' ⟨by have := ho.1; omega, ho.2⟩
              unfold olt at hb h1 ⊢
              simp only [Bool.or_eq_true, Bool.and_eq_true, decide_eq_true_eq, beq_iff_eq] at hb
              simp only [Bool.or_eq_false_iff, Bool.and_eq_false_iff, decide_eq_false_iff_not, beq_eq_false_iff_ne] at h1 ⊢
              omega
          | false =>
            rw [if_neg Bool.false_ne_true]
            refine .inr ⟨o, rfl, ⟨by have := B.is.1; omega, B.is.2⟩, fun o' ho => ?_⟩
            by_cases q : o'.2 = j
            · rw [only o' q ho.2]; exact hb
            · exact B.least o' ⟨by have := ho.1; omega, ho.2⟩
theorem withTicket_eq {fs : List Fare} {c : Card} {os : List (Nat × Nat)} (O : Offs c fs os) (x : Leg) (l : List Leg) (m n : Nat) (r : Option Plan) :
    withTicket fs c (x :: l) (m + 1) r = r.bind fun r => (bestOff fs os ((l.take m).foldl grow (st1 x))).map (planOf r (m + 1)) := by
  cases r with
  | none => rfl
  | some r =>
    show (List.range fs.length).foldl (wtStep fs c (x :: l.take m) (m + 1) r) none = _
    rcases wt_fold (fs := fs) (c := c) (x := x) (l := l.take m) (n := m + 1) (r := r) fs.length with ⟨e1, e2⟩ | ⟨o, e1, B⟩
    · rw [e1]
      rcases bestOff_is (s := (l.take m).foldl grow (st1 x)) O with ⟨k1, _⟩ | ⟨o, _, B⟩
      · show none = Option.map _ (bestOff fs os _)
        rw [k1]; rfl
      · obtain ⟨f, h1, _⟩ := id B.is
        exact absurd B.is (e2 o (List.getElem?_eq_some_iff.mp h1).1)
    · rw [e1]
      rcases bestOff_is (s := (l.take m).foldl grow (st1 x)) O with ⟨_, k2⟩ | ⟨o2, k1, B2⟩
      · exact absurd B.is.2 (k2 o)
      · have e : o = o2 := Best.one (S := Can c fs ((l.take m).foldl grow (st1 x))) ⟨B.is.2, fun o' ho => B.least o' ⟨(by obtain ⟨f, h1, _⟩ := ho; exact (List.getElem?_eq_some_iff.mp h1).1), ho⟩⟩ B2
        show _ = Option.map _ (bestOff fs os _)
        rw [k1, e]; rfl
/-! ### the mathematics: the best plan -/
def minStep (a b : Plan) : Plan := if better b a then b else a
def minP : List Plan → Option Plan
  | [] => none
  | p :: l => some (l.foldl minStep p)
theorem pick_fold : ∀ (l : List (Option Plan)) (a : Plan), l.foldl pick (some a) = some ((l.filterMap id).foldl minStep a)
  | [], _ => rfl
  | none :: l, a => pick_fold l a
  | some b :: l, a => by
    show l.foldl pick (if better b a = true then some b else some a) = some ((l.filterMap id).foldl minStep (minStep a b))
    unfold minStep
    split
    · exact pick_fold l b
    · exact pick_fold l a
theorem pick_min : ∀ l : List (Option Plan), l.foldl pick none = minP (l.filterMap id)
  | [] => rfl
  | none :: l => pick_min l
  | some b :: l => pick_fold l b
/-- the plans that begin with a ticket for one leg, for two, .. -/
def founds (fs : List Fare) (os : List (Nat × Nat)) (x : Leg) (l : List Leg) (r : List (Option Plan)) (m : Nat) : List Plan :=
  (List.range m).filterMap fun k => ((r[k]?).bind id).bind fun p => (bestOff fs os ((l.take k).foldl grow (st1 x))).map (planOf p (k + 1))
theorem plans_len (fs : List Fare) (c : Card) : ∀ l : List Leg, (plans fs c l).length = l.length + 1
  | [] => rfl
  | x :: l => by show (plans fs c l).length + 1 = l.length + 1 + 1; rw [plans_len fs c l]
theorem plans_cons {fs : List Fare} {c : Card} {os : List (Nat × Nat)} (O : Offs c fs os) (x : Leg) (l : List Leg) :
    plans fs c (x :: l) = minP (founds fs os x l (plans fs c l) (l.length + 1)) :: plans fs c l := by
  show ((List.range (plans fs c l).length).foldl (fun (a : Option Plan) k => pick a (withTicket fs c (x :: l) (k + 1) (((plans fs c l)[k]?).bind id))) none) :: plans fs c l = _
  congr 1
  rw [plans_len]
  have e : (List.range (l.length + 1)).foldl (fun (a : Option Plan) k => pick a (withTicket fs c (x :: l) (k + 1) (((plans fs c l)[k]?).bind id))) none = ((List.range (l.length + 1)).map fun k => withTicket fs c (x :: l) (k + 1) (((plans fs c l)[k]?).bind id)).foldl pick none := by
    rw [List.foldl_map]
  rw [e, pick_min, List.filterMap_map]
  unfold founds
  congr 2
  funext k
  exact withTicket_eq O x l k (k + 1) _
theorem plans_drop {fs : List Fare} {c : Card} : ∀ (l : List Leg) (k : Nat), k ≤ l.length → plans fs c (l.drop k) = (plans fs c l).drop k
  | _, 0, _ => rfl
  | [], k + 1, h => absurd h (by simp)
  | x :: l, k + 1, h => by
    show plans fs c (l.drop k) = (plans fs c l).drop k
    exact plans_drop l k (by simpa using h)
/-- whatever is the best: a ticket that can be had, and the best of what is behind -/
theorem founds_mem {fs : List Fare} {os : List (Nat × Nat)} {x : Leg} {l : List Leg} {r : List (Option Plan)} {m : Nat} {p : Plan} (h : p ∈ founds fs os x l r m) :
    ∃ k q o, k < m ∧ r[k]? = some (some q) ∧ bestOff fs os ((l.take k).foldl grow (st1 x)) = some o ∧ p = planOf q (k + 1) o := by
  unfold founds at h
  obtain ⟨k, hk, e⟩ := List.mem_filterMap.mp h
  cases e1 : r[k]? with
  | none => rw [e1] at e; cases e
  | some q' =>
    cases q' with
    | none => rw [e1] at e; cases e
    | some q =>
      rw [e1] at e
      cases e2 : bestOff fs os ((l.take k).foldl grow (st1 x)) with
      | none => rw [e2] at e; cases e
      | some o =>
        rw [e2] at e
        exact ⟨k, q, o, List.mem_range.mp hk, e1, e2, (Option.some.inj e).symm⟩
theorem minStep_mem : ∀ (l : List Plan) (a : Plan), l.foldl minStep a = a ∨ l.foldl minStep a ∈ l
  | [], a => .inl rfl
  | b :: l, a => by
    rcases minStep_mem l (minStep a b) with h | h
    · rw [List.foldl_cons, h]
      unfold minStep
      split
      · exact .inr (List.mem_cons_self ..)
      · exact .inl rfl
    · exact .inr (List.mem_cons_of_mem _ h)
theorem minP_mem {l : List Plan} {p : Plan} (h : minP l = some p) : p ∈ l := by
  cases l with
  | nil => cases h
  | cons a r =>
    have e : r.foldl minStep a = p := Option.some.inj h
    rcases minStep_mem r a with q | q
    · rw [← e, q]; exact List.mem_cons_self ..
    · rw [← e]; exact List.mem_cons_of_mem _ q
end LF
end

section
set_option Elab.async false
set_option linter.all false
set_option maxRecDepth 100000
namespace LF
open PySem PySem.Spec PyProof.Rows L2
/-! ### tuples of ints by their order -/
def ilt : List Int → List Int → Bool
  | [], [] => false
  | [], _ :: _ => true
  | _ :: _, [] => false
  | x :: r, y :: t => if x = y then ilt r t else decide (x < y)
section
variable {prog : Program} {w : World} {A : Around} {E : Value → Shared → Prop} {s : Shared}
theorem tuple_lt_tree {x y : List Int} {us ws : List Value} {a b : Addr} {P : Fin → Shared → Prop} (hx : IsTup s.heap a us.toArray) (hy : IsTup s.heap b ws.toArray) (ix : IntsAre us x) (iy : IntsAre ws y)
    (h : P (.done (.ret (.bool (ilt x y)))) s) : wpAny (model prog w) A (Builtin.«tuple.__lt__» ⟨[.ref a, .ref b], []⟩) P E s := by
  have hTb := hy.typeIs
  obtain ⟨oa, hoa, _, na, hda⟩ := hx
  obtain ⟨ob, hob, _, nb, hdb⟩ := hy
  show wpAny _ _ (isInstance (.ref b) (.type "tuple") >>= _) _ _ s
  refine wpAny_bind (wpAny_isInstance hTb isSubtype_tuple_tuple ?_)
  simp only [Bool.not_true, Bool.false_eq_true, if_false]
  refine wpAny_bind (wpAny_tupleItemsOf hoa hda ?_)
  refine wpAny_bind (wpAny_tupleItemsOf hob hdb ?_)
  refine wpAny_bind ?_
  refine wpAny_forIn_list _
    (fun rest r s' => r.1 = none ∧ s' = s ∧ ∃ x' y' us' ws', rest = List.zip us' ws' ∧ IntsAre us' x' ∧ IntsAre ws' y' ∧ ilt x' y' = ilt x y ∧ decide (us'.length < ws'.length) = decide (us.toArray.size < ws.toArray.size))
    _ ?_ ?_ _ _ ⟨rfl, rfl, x, y, us, ws, rfl, ix, iy, rfl, by simp⟩
  · rintro ⟨u, v⟩ rest r s' ⟨hr, rfl, x', y', us', ws', hz, hx', hy', hdec, hlen⟩
    cases hx' with
    | nil => simp at hz
    | @cons k1 t1 us'' x'' hx'' =>
      cases hy' with
      | nil => simp at hz
      | @cons k2 t2 ws'' y'' hy'' =>
        simp only [List.zip_cons_cons, List.cons.injEq, Prod.mk.injEq] at hz
        obtain ⟨⟨rfl, rfl⟩, rfl⟩ := hz
        refine wpAny_bind (wpAny_eqBool_int ?_)
        by_cases hk : k1 = k2
        · subst hk
          rw [beq_self_eq_true]
          simp only [Bool.not_true, Bool.false_eq_true, if_false]
          refine wpAny_pure ⟨rfl, rfl, x'', y'', us'', ws'', rfl, hx'', hy'', ?_, by simpa using hlen⟩
          rw [← hdec, ilt, if_pos rfl]
        · rw [beq_eq_false_iff_ne.mpr hk]
          simp only [Bool.not_false, if_true]
          have hf : ilt x y = decide (k1 < k2) := by rw [← hdec, ilt, if_neg hk]
          rw [hf] at h
          refine wpAny_bind (wpAny_rule (wpAny_bind ?_))
          refine PySem.P.lt_int ?_
          exact wpAny_bind (wpAny_pure (wpAny_pure (wpAny_pure h)))
  · rintro ⟨r1, r2⟩ s' ⟨hr, rfl, x', y', us', ws', hz, hx', hy', hdec, hlen⟩
    simp only at hr
    subst hr
    refine wpAny_pure ?_
    have hfin : decide (us.toArray.size < ws.toArray.size) = ilt x y := by
      rw [← hdec, ← hlen]
      cases hx' with
      | nil =>
        cases hy' with
        | nil => rfl
        | cons _ _ => rfl
      | cons _ _ =>
        cases hy' with
        | nil => rfl
        | cons _ _ => simp at hz
    show P (.done (.ret (.bool (decide (us.toArray.size < ws.toArray.size))))) s'
    rw [hfin]; exact h
theorem rich_lt_tup {x y : List Int} {us ws : List Value} {a b : Addr} {Q : Value → Shared → Prop} (hu : A.units < cLine) (hx : IsTup s.heap a us.toArray) (hy : IsTup s.heap b ws.toArray) (ix : IntsAre us x) (iy : IntsAre ws y)
    (h : Q (.bool (ilt x y)) s) : wpAny (model prog w) A (richCompare .Lt (.ref a) (.ref b)) Q E s :=
  wpAny_richCompare_same_room (op := .Lt) hx.typeIs hy.typeIs F.slot_tuple_lt
    (wpAny_call_entry F.slot_tuple_lt hx.typeIs F.entry_tuple_lt (tuple_lt_tree hx hy ix iy ⟨_, rfl, (fun e => nomatch e), h⟩) (F.args_tuple_lt_2 _ _)) hu
end

/-! ### min(xs, default=None) of a list of tuples of ints -/
def TupV (h : Heap) (x : Value × List Int) : Prop := ∃ a us, x.1 = .ref a ∧ IsTup h a (List.toArray us) ∧ IntsAre us x.2
def pickI (b x : Value × List Int) : Value × List Int := if ilt x.2 b.2 = true then x else b
theorem TupV.keeps {h h' : Heap} {x : Value × List Int} (t : TupV h x) (k : ∀ b o, h.get? b = some o → h'.get? b = some o) : TupV h' x :=
  let ⟨a, us, e, q, i⟩ := t; ⟨a, us, e, q.keeps k, i⟩
section
variable {prog : Program} {w : World} {A : Around} {E : Value → Shared → Prop} {s : Shared}
theorem min_loop_tup {h0 : Heap} {I S l : Addr} {items : Array Value} {R : Result → Shared → Prop} {kw : List (Str × Value)} (hh : A.handled = none) (hu : A.units + 1 < cLine) (hl : h0.IsList l items) (hlI : l ≠ I) (hIS : I ≠ S) (hI : h0.objs.size ≤ I) (hS : h0.objs.size ≤ S) :
    ∀ (rest : List (Value × List Int)) (j : Nat) (h : Heap) (tk : Nat) (b : Value × List Int) (c : Nat), items.toList.drop j = rest.map (·.1) → j ≤ items.size → (∀ x ∈ rest, TupV h0 x) → TupV h0 b →
      (∀ b o, h0.get? b = some o → h.get? b = some o) → h.IsListIter I l j → h.get? S = some (seqObj "list" #[b.1, b.1] c) →
      (∀ h' tk', (∀ b o, h0.get? b = some o → h'.get? b = some o) → R (.ok (.ret (rest.foldl pickI b).1)) { s with heap := h', toks := tk' }) →
      codeAny (model prog w) A (.builtin "min.loop" ⟨[.ref I, .none, .ref S], kw⟩) R { s with heap := h, toks := tk } := by
  have hname : (toString "min" ++ toString ".loop" : String) = "min.loop" := by decide
  have W := Walks.list (prog := prog) (w := w) (A := A.in1) hh I l hlI items
  have hne : ∀ b o, h0.get? b = some o → b ≠ I ∧ b ≠ S := fun b o e => by
    have := Heap.lt_size e
    exact ⟨fun q => Nat.lt_irrefl _ (Nat.lt_of_lt_of_le (q ▸ this) hI), fun q => Nat.lt_irrefl _ (Nat.lt_of_lt_of_le (q ▸ this) hS)⟩
  intro rest
  induction rest with
  | nil =>
    intro j h tk b c hd hj _ hb hk hit hbS hR
    have hin : j = items.size := by
      have := congrArg List.length hd
      simp only [List.length_drop, List.map_nil, List.length_nil, Array.length_toList] at this
      omega
    refine codeAny_builtin PySem.F.entry_min_loop ?_
    rw [Around.under_plainId PySem.F.plain_min_loop _]
    show wpAny _ A.in1 (seqItems? (.ref S) >>= _) _ _ _
    refine wpAny_bind (wpAny_seqItems hbS rfl ?_)
    show wpAny _ A.in1 (tryCatch (pyNext (.ref I)) _ >>= _) _ _ _
    refine wpAny_bind (wpAny_tryCatch (W.done _ _ _ ⟨by rw [← hin]; exact hit, hl.at fun o e => hk l o e⟩ fun h' tk' hk' => ?_))
    have hS' := hk' S _ (by simpa using fun q : S = I => hIS q.symm) hbS
    have s1 := Heap.SameBut.update h' S (Obj.mapSeq fun _ => (#[] : Array Value))
    show wpAny _ A.in1 (updateSeq S (fun _ => #[]) >>= _) _ _ _
    refine wpAny_bind ?_
    refine wpAny_updateSeq hS' rfl (wpAny_bind (wpAny_letGo (wpAny_pure ?_)))
    refine hR _ _ fun b' o e => ?_
    have ne := hne b' o e
    exact (s1.2 b' ne.2).trans (hk' b' o (by simpa using ne.1) (hk b' o e))
  | cons x rest ih =>
    intro j h tk b c hd hj hT hb hk hit hbS hR
    have hlt : j < items.size := by
      have := congrArg List.length hd
      simp only [List.length_drop, List.map_cons, List.length_cons, Array.length_toList] at this
      omega
    have hx0 : items[j]? = some x.1 := by
      have := congrArg (fun q => q[0]?) hd
      simpa using this
    refine codeAny_builtin PySem.F.entry_min_loop ?_
    rw [Around.under_plainId PySem.F.plain_min_loop _]
    show wpAny _ A.in1 (seqItems? (.ref S) >>= _) _ _ _
    refine wpAny_bind (wpAny_seqItems hbS rfl ?_)
    show wpAny _ A.in1 (tryCatch (pyNext (.ref I)) _ >>= _) _ _ _
    refine wpAny_bind (wpAny_tryCatch (W.item j _ _ _ hlt ⟨hit, hl.at fun o e => hk l o e⟩ fun v h' tk' hP hst' hk' => ?_))
    have hv : v = x.1 := Option.some.inj (hP.symm.trans hx0)
    subst hv
    have k1 : ∀ b o, h0.get? b = some o → h'.get? b = some o := fun b' o e => hk' b' o (by simpa using (hne b' o e).1) (hk b' o e)
    have hS' := hk' S _ (by simpa using fun q : S = I => hIS q.symm) hbS
    refine wpAny_bind (wpAny_pure ?_)
    obtain ⟨ax, usx, ex, tx, ix⟩ := (hT x (List.mem_cons_self ..)).keeps k1
    obtain ⟨ab, usb, eb, tb, ib⟩ := hb.keeps k1
    show wpAny _ A.in1 (tryCatch (holding [x.1, x.1] (richCompare .Lt x.1 b.1 >>= _)) _ >>= _) _ _ _
    refine wpAny_bind (wpAny_tryCatch (wpAny_holding (wpAny_bind ?_)))
    rw [ex, eb]
    refine rich_lt_tup (show A.in1.units < cLine from hu) tx tb ix ib ?_
    refine wpAny_bind (wpAny_holding (wpAny_truthy_bool ?_))
    refine wpAny_bind (wpAny_letGo (wpAny_pure ?_))
    have hd' : items.toList.drop (j + 1) = rest.map (·.1) := by
      have := congrArg List.tail hd
      simpa using this
    have hT' : ∀ y ∈ rest, TupV h0 y := fun y hy => hT y (List.mem_cons_of_mem _ hy)
    cases hc : ilt x.2 b.2 with
    | true =>
      have ep : pickI b x = x := by unfold pickI; rw [hc, if_pos rfl]
      have hR' : ∀ h' tk', (∀ b o, h0.get? b = some o → h'.get? b = some o) → R (.ok (.ret (rest.foldl pickI x).1)) { s with heap := h', toks := tk' } := fun h2 t2 k2 => by
        have := hR h2 t2 k2
        rw [List.foldl_cons, ep] at this
        exact this
      have s1 := Heap.SameBut.update h' S (Obj.mapSeq fun _ => #[x.1, x.1])
      obtain ⟨c2, hc2⟩ : ∃ c2, (h'.update S (Obj.mapSeq fun _ => #[x.1, x.1])).get? S = some (seqObj "list" #[x.1, x.1] c2) := ⟨_, get?_update_seq hS' fun _ => #[x.1, x.1]⟩
      simp only [if_true]
      refine wpAny_bind ?_
      rw [← ex] at *
      refine wpAny_updateSeq hS' rfl (wpAny_bind (wpAny_letGo ?_))
      rw [hname]
      refine wpAny_pure ⟨plainId_quiet PySem.F.plain_min_loop _, ih (j + 1) _ _ x c2 hd' hlt hT' (hT x (List.mem_cons_self ..)) (fun b' o e => (s1.2 b' (hne b' o e).2).trans (k1 b' o e)) ?_ hc2 hR'⟩
      exact hst'.1.at fun o e => (s1.2 I hIS).trans e
    | false =>
      have ep : pickI b x = b := by unfold pickI; rw [hc, if_neg Bool.false_ne_true]
      have hR' : ∀ h' tk', (∀ b o, h0.get? b = some o → h'.get? b = some o) → R (.ok (.ret (rest.foldl pickI b).1)) { s with heap := h', toks := tk' } := fun h2 t2 k2 => by
        have := hR h2 t2 k2
        rw [List.foldl_cons, ep] at this
        exact this
      simp only [Bool.false_eq_true, if_false]
      refine wpAny_bind (wpAny_letGo ?_)
      rw [hname]
      exact wpAny_pure ⟨plainId_quiet PySem.F.plain_min_loop _, ih (j + 1) _ _ b c hd' hlt hT' hb k1 hst'.1 hS' hR'⟩

theorem args_min_default (a v : Value) : argsOk "min" ⟨[a], [(Str.ofString "default", v)]⟩ := by unfold argsOk; kernel_rfl
/-- min(l, default=d) -/
theorem min_tup_default {l : Addr} {items : Array Value} {prs : List (Value × List Int)} {d : Value} {Q : Value → Shared → Prop} (hh : A.handled = none) (hu : A.units + 1 < cLine) (hl : s.heap.IsList l items) (he : items.toList = prs.map (·.1)) (hT : ∀ x ∈ prs, TupV s.heap x)
    (hQ : ∀ h' tk', (∀ b o, s.heap.get? b = some o → h'.get? b = some o) → Q (match prs with | [] => d | p :: r => (r.foldl pickI p).1) { s with heap := h', toks := tk' }) :
    wpAny (model prog w) A (call (.builtin "min") [.ref l] [(Str.ofString "default", d)]) Q E s := by
  have hname : (toString "min" ++ toString ".loop" : String) = "min.loop" := by decide
  obtain ⟨ol, hol, _⟩ := id hl
  have hll : l < s.heap.objs.size := Heap.lt_size hol
  refine kmb_tree PySem.F.kind_min PySem.F.plain_min PySem.F.entry_min (args_min_default _ _) ?_
  show wpAny _ A.in1 (Builtin.Builtins.bindParams "min" ["key", "default"] 0 ⟨[], [(Str.ofString "default", d)]⟩ >>= _) _ _ s
  refine wpAny_bind (wpAny_of_eq (show Builtin.Builtins.bindParams "min" ["key", "default"] 0 ⟨[], [(Str.ofString "default", d)]⟩ = pure [none, some d] from rfl) ?_)
  refine wpAny_bind (wpAny_pure ?_)
  refine wpAny_bind (wpAny_pyIter_list hl ?_)
  refine wpAny_bind (wpAny_newList ?_ (Nat.zero_le _))
  rw [hname]
  have hS : (s.heap.push { cls := .type "list_iterator", data := .fields #[.ref l, .int 0 0] }).objs.size = s.heap.objs.size + 1 := size_push' ..
  have hlI : l ≠ s.heap.objs.size := Nat.ne_of_lt hll
  have hIS : s.heap.objs.size ≠ (s.heap.push { cls := .type "list_iterator", data := .fields #[.ref l, .int 0 0] }).objs.size := by rw [hS]; exact Nat.ne_of_lt (Nat.lt_succ_self _)
  have hSge : s.heap.objs.size ≤ (s.heap.push { cls := .type "list_iterator", data := .fields #[.ref l, .int 0 0] }).objs.size := by rw [hS]; exact Nat.le_succ _
  refine wpAny_pure ⟨plainId_quiet PySem.F.plain_min_loop _, ?_⟩
  have k0 : ∀ b o, s.heap.get? b = some o → ((s.heap.push { cls := .type "list_iterator", data := .fields #[.ref l, .int 0 0] }).push (seqObj "list" #[] 0)).get? b = some o := fun b x e => Heap.get?_push_of_some _ (Heap.get?_push_of_some _ e)
  have gI : ((s.heap.push { cls := .type "list_iterator", data := .fields #[.ref l, .int 0 0] }).push (seqObj "list" #[] 0)).get? s.heap.objs.size = some { cls := .type "list_iterator", data := .fields #[.ref l, .int 0 0] } :=
    Heap.get?_push_of_some _ (Heap.get?_push_size _ rfl)
  have gS : ((s.heap.push { cls := .type "list_iterator", data := .fields #[.ref l, .int 0 0] }).push (seqObj "list" #[] 0)).get? (s.heap.push { cls := .type "list_iterator", data := .fields #[.ref l, .int 0 0] }).objs.size = some (seqObj "list" #[] 0) := Heap.get?_push_size _ rfl
  have W := Walks.list (prog := prog) (w := w) (A := A.in1) hh s.heap.objs.size l hlI items
  have hne : ∀ b o, s.heap.get? b = some o → b ≠ s.heap.objs.size ∧ b ≠ (s.heap.push { cls := .type "list_iterator", data := .fields #[.ref l, .int 0 0] }).objs.size := fun b o e => by
    have := Heap.lt_size e
    exact ⟨fun q => Nat.lt_irrefl _ (q ▸ this), fun q => Nat.lt_irrefl _ (Nat.lt_of_lt_of_le (q ▸ this) hSge)⟩
  cases prs with
  | nil =>
    have hz : items.size = 0 := by
      have := congrArg List.length he
      simpa using this
    refine codeAny_builtin PySem.F.entry_min_loop ?_
    rw [Around.under_plainId PySem.F.plain_min_loop _]
    show wpAny _ A.in1 (seqItems? (.ref _) >>= _) _ _ _
    refine wpAny_bind (wpAny_seqItems gS rfl ?_)
    show wpAny _ A.in1 (tryCatch (pyNext (.ref s.heap.objs.size)) _ >>= _) _ _ _
    refine wpAny_bind (wpAny_tryCatch (W.done _ _ _ ⟨by rw [hz]; exact ⟨_, gI, rfl, rfl⟩, hl.at fun o e => k0 l o e⟩ fun h' tk' hk' => ?_))
    refine wpAny_bind (wpAny_rule ?_)
    exact wpAny_pure (hQ _ _ fun b o e => hk' b o (by simpa using (hne b o e).1) (k0 b o e))
  | cons x rest =>
    have hlt : 0 < items.size := by
      have := congrArg List.length he
      simp only [List.map_cons, List.length_cons, Array.length_toList] at this
      omega
    have hx0 : items[0]? = some x.1 := by
      have := congrArg (fun q => q[0]?) he
      simpa using this
    refine codeAny_builtin PySem.F.entry_min_loop ?_
    rw [Around.under_plainId PySem.F.plain_min_loop _]
    show wpAny _ A.in1 (seqItems? (.ref _) >>= _) _ _ _
    refine wpAny_bind (wpAny_seqItems gS rfl ?_)
    show wpAny _ A.in1 (tryCatch (pyNext (.ref s.heap.objs.size)) _ >>= _) _ _ _
    refine wpAny_bind (wpAny_tryCatch (W.item 0 _ _ _ hlt ⟨⟨_, gI, rfl, rfl⟩, hl.at fun o e => k0 l o e⟩ fun v h' tk' hP hst' hk' => ?_))
    have hv : v = x.1 := Option.some.inj (hP.symm.trans hx0)
    subst hv
    refine wpAny_bind (wpAny_pure ?_)
    have k1 : ∀ b o, s.heap.get? b = some o → h'.get? b = some o := fun b' o e => hk' b' o (by simpa using (hne b' o e).1) (k0 b' o e)
    have hS' := hk' _ _ (by simpa using fun q => hIS q.symm) gS
    have s1 := Heap.SameBut.update h' (s.heap.push { cls := .type "list_iterator", data := .fields #[.ref l, .int 0 0] }).objs.size (Obj.mapSeq fun _ => #[x.1, x.1])
    obtain ⟨c2, hc2⟩ : ∃ c2, (h'.update (s.heap.push { cls := .type "list_iterator", data := .fields #[.ref l, .int 0 0] }).objs.size (Obj.mapSeq fun _ => #[x.1, x.1])).get? (s.heap.push { cls := .type "list_iterator", data := .fields #[.ref l, .int 0 0] }).objs.size = some (seqObj "list" #[x.1, x.1] c2) := ⟨_, get?_update_seq hS' fun _ => #[x.1, x.1]⟩
    show wpAny _ A.in1 (updateSeq (s.heap.push { cls := .type "list_iterator", data := .fields #[.ref l, .int 0 0] }).objs.size (fun _ => #[x.1, x.1]) >>= _) _ _ _
    refine wpAny_bind ?_
    refine wpAny_updateSeq hS' rfl ?_
    rw [hname]
    refine wpAny_pure ⟨plainId_quiet PySem.F.plain_min_loop _, min_loop_tup (h0 := s.heap) hh hu hl hlI hIS (Nat.le_refl _) hSge rest 1 _ _ x c2 (by have := congrArg List.tail he; simpa using this) hlt (fun y hy => hT y (List.mem_cons_of_mem _ hy)) (hT x (List.mem_cons_self ..)) (fun b' o e => (s1.2 b' (hne b' o e).2).trans (k1 b' o e)) ?_ hc2 fun h2 t2 k2 => hQ h2 t2 k2⟩
    exact hst'.1.at fun o e => (s1.2 _ hIS).trans e
end
end LF
end

section
set_option Elab.async false
set_option linter.all false
set_option maxRecDepth 100000
namespace LF
open PySem PySem.Spec PyProof.Rows L2
/-! ### sorted(xs) of a list of tuples of ints -/
def sh0 : Nat → Bool := fun _ => false
theorem tupItems_ints : ∀ {us : List Value} {x : List Int} (i : Nat), IntsAre us x → tupItems sh0 i us = some (x.map Sum.inl)
  | _, _, _, .nil => rfl
  | _, _, i, .cons n t r => by
    show (if sh0 i = true then none else (tupItems sh0 (i + 1) _).map (Sum.inl n :: ·)) = _
    rw [if_neg (show ¬ sh0 i = true from Bool.false_ne_true), tupItems_ints (i + 1) r]
    rfl
theorem lex_ilt : ∀ x y : List Int, lexLt itemOrd (x.map Sum.inl) (y.map Sum.inl) = ilt x y
  | [], [] => rfl
  | [], _ :: _ => rfl
  | _ :: _, [] => rfl
  | a :: x, b :: y => by
    show (decide (a < b) || (!decide (b < a) && lexLt itemOrd (x.map Sum.inl) (y.map Sum.inl))) = if a = b then ilt x y else decide (a < b)
    rw [lex_ilt x y]
    by_cases e : a = b
    · subst e
      rw [if_pos rfl]
      simp
    · rw [if_neg e]
      by_cases h : a < b
      · simp [h]
      · have h2 : b < a := by omega
        simp [h, h2]
def tupG (h : Heap) (v : Value) : Addr × List Int := (match v with | .ref a => a | _ => 0, ((G.tupKeyC h sh0 v).getD []).map fun | .inl n => n | .inr _ => 0)
theorem inl_back : ∀ x : List Int, (x.map (Sum.inl : Int → Int ⊕ List Nat)).map (fun | .inl n => n | .inr _ => 0) = x
  | [] => rfl
  | a :: x => by rw [List.map_cons, List.map_cons, inl_back x]
theorem keyC_of {h : Heap} {a : Addr} {us : List Value} {x : List Int} (t : IsTup h a (List.toArray us)) (i : IntsAre us x) : G.tupKeyC h sh0 (.ref a) = some (x.map Sum.inl) := by
  obtain ⟨o, ho, hc, n, hd⟩ := t
  unfold G.tupKeyC
  have e : G.isTupObj h (.ref a) = true := by
    unfold G.isTupObj
    simp only [ho, hc]
    rfl
  rw [if_pos e]
  show (match h.get? a with | some o => (match o.data with | .seq xs _ => tupItems sh0 0 xs.toList | _ => none) | none => none) = _
  rw [ho]
  simp only [hd]
  exact tupItems_ints 0 i
section
variable {prog : Program} {w : World} {A : Around} {E : Value → Shared → Prop} {s : Shared}
theorem sorted_tup_raw {l : Addr} {prs : List (Addr × List Int)} {Q : Value → Shared → Prop} (hl : s.heap.IsList l (prs.map fun p => Value.ref p.1).toArray)
    (hT : ∀ p ∈ prs, p.2 ≠ [] ∧ ∃ us, IsTup s.heap p.1 (List.toArray us) ∧ IntsAre us p.2) (hL : prs.length ≤ sizeLine)
    (h : ∀ (prs' : List (Addr × List Int)) (out : Array Value), out.toList = prs'.map (fun p => Value.ref p.1) → prs'.Perm prs → prs'.Pairwise (fun a b => ilt b.2 a.2 = false) →
      Q (.ref (s.heap.objs.size + 1)) { s with heap := sortedAll s.heap (prs.map fun p => Value.ref p.1) out }) :
    wpAny (model prog w) A (call (.builtin "sorted") [.ref l]) Q E s := by
  have hg : ∀ p ∈ prs, tupG s.heap (.ref p.1) = p := fun p hp => by
    obtain ⟨_, us, t, i⟩ := hT p hp
    unfold tupG
    rw [keyC_of t i]
    show (p.1, (p.2.map Sum.inl).map _) = p
    rw [inl_back]
  have hk : ∀ v, v ∈ (prs.map fun p => Value.ref p.1) → ∃ l, G.tupKeyC s.heap sh0 v = some l := fun v hv => by
    obtain ⟨p, hp, rfl⟩ := List.mem_map.mp hv
    obtain ⟨_, us, t, i⟩ := hT p hp
    exact ⟨_, keyC_of t i⟩
  have ht : ∃ fs, TupsOf s.heap sh0 (prs.map fun p => Value.ref p.1) fs := by
    clear hg hk h hL hl
    induction prs with
    | nil => exact ⟨[], .nil⟩
    | cons p r ih =>
      obtain ⟨fs, hf⟩ := ih fun q hq => hT q (List.mem_cons_of_mem _ hq)
      obtain ⟨hn, us, ⟨o, ho, hc, n, hd⟩, i⟩ := hT p (List.mem_cons_self ..)
      obtain ⟨pa, pk⟩ := p
      have i : IntsAre us pk := i
      cases i with
      | nil => exact absurd rfl hn
      | @cons m t vs ns i => exact ⟨_, .cons ⟨pa, o, _, n, rfl, ho, hc, hd, rfl, fun _ => ⟨m, t, rfl⟩, fun z => nomatch z⟩ hf⟩
  obtain ⟨fs, ht⟩ := ht
  refine G.sorted_tups (shape := sh0) hl ht hk (by rw [List.length_map]; exact hL) fun st' hp hs _ => ?_
  have hpl : (arrOf st').toList.Perm ((prs.map fun p => Value.ref p.1).zip (prs.map fun p => Value.ref p.1)) := by
    have := hp.toList
    rw [pairsOf_toList] at this
    exact this
  have hsame : ∀ p ∈ (arrOf st').toList, p.1 = p.2 ∧ p.2 ∈ (prs.map fun p => Value.ref p.1) := fun p hp' => by
    have := mem_zip_self (hpl.mem_iff.mp hp')
    exact ⟨this.1, this.1 ▸ this.2⟩
  have hsnd : ((arrOf st').toList.map (·.2)).Perm (prs.map fun p => Value.ref p.1) := by
    have := hpl.map (·.2)
    have e : ∀ l : List Value, (l.zip l).map (·.2) = l := fun l => by
      induction l with
      | nil => rfl
      | cons a r ih => rw [List.zip_cons_cons, List.map_cons, ih]
    rw [e] at this
    exact this
  have hmap : ((prs.map fun p => Value.ref p.1).map (tupG s.heap)) = prs := by
    rw [List.map_map]
    have : ∀ l : List (Addr × List Int), (∀ p ∈ l, tupG s.heap (.ref p.1) = p) → l.map (tupG s.heap ∘ fun p => Value.ref p.1) = l := fun l => by
      induction l with
      | nil => intro _; rfl
      | cons a r ih =>
        intro q
        rw [List.map_cons, ih fun p hp => q p (List.mem_cons_of_mem _ hp)]
        show tupG s.heap (.ref a.1) :: r = a :: r
        rw [q a (List.mem_cons_self ..)]
    exact this prs hg
  refine h (((arrOf st').toList.map (·.2)).map (tupG s.heap)) _ ?_ ?_ ?_
  · rw [Array.toList_map, List.map_map]
    have : ∀ l : List Value, (∀ v ∈ l, v ∈ (prs.map fun p => Value.ref p.1)) → l.map ((fun p : Addr × List Int => Value.ref p.1) ∘ tupG s.heap) = l := fun l => by
      induction l with
      | nil => intro _; rfl
      | cons a r ih =>
        intro q
        rw [List.map_cons, ih fun p hp => q p (List.mem_cons_of_mem _ hp)]
        obtain ⟨p, hp, rfl⟩ := List.mem_map.mp (q a (List.mem_cons_self ..))
        show Value.ref (tupG s.heap (.ref p.1)).1 :: r = _
        rw [hg p hp]
    exact (this _ fun v hv => by obtain ⟨p, hp, rfl⟩ := List.mem_map.mp hv; exact (hsame p hp).2).symm
  · have := hsnd.map (tupG s.heap)
    rw [hmap] at this
    exact this
  · rw [List.pairwise_iff_getElem]
    intro i j hi hj hij
    simp only [List.length_map, Array.length_toList] at hi hj
    have hsz : (arrOf st').size = (pairsOf (prs.map fun p => Value.ref p.1)).size := by
      have := hpl.length_eq
      rw [Array.length_toList, ← pairsOf_toList, Array.length_toList] at this
      exact this
    have hle := hs i j (Nat.le_of_lt hij) (by rw [← hsz]; exact hj)
    have kk : ∀ m (hm : m < (arrOf st').size), KK (G.tupKindC s.heap sh0) (arrOf st') m = (tupG s.heap (arrOf st')[m].2).2.map Sum.inl := fun m hm => by
      unfold KK
      rw [Array.getElem?_eq_getElem hm]
      have hmem : (arrOf st')[m] ∈ (arrOf st').toList := by simp
      obtain ⟨e1, e2⟩ := hsame _ hmem
      show (G.tupKeyC s.heap sh0 (arrOf st')[m].1).getD [] = _
      rw [e1]
      obtain ⟨p, hp', e3⟩ := List.mem_map.mp e2
      obtain ⟨_, us, t, iu⟩ := hT p hp'
      rw [← e3]
      rw [hg p hp', keyC_of t iu]
      rfl
    rw [kk i hi, kk j hj] at hle
    have hle2 : lexLt itemOrd ((tupG s.heap (arrOf st')[j].2).2.map Sum.inl) ((tupG s.heap (arrOf st')[i].2).2.map Sum.inl) = false := hle
    rw [lex_ilt] at hle2
    simpa using hle2
end

/-! ### both by the layer's judgements -/
theorem refs_vals : ∀ {prs : List (Addr × List Int)} {us : List Value}, Vals (prs.map fun p => V.ref p.1) us → us = prs.map fun p => Value.ref p.1
  | [], us, h => by
    rw [List.map_nil] at h
    cases h
    rfl
  | p :: r, us, h => by
    rw [List.map_cons] at h
    cases h with
    | cons r1 t =>
      cases r1
      rw [refs_vals t]
      rfl
theorem vals_refs : ∀ (prs : List (Addr × List Int)), Vals (prs.map fun p => V.ref p.1) (prs.map fun p => Value.ref p.1)
  | [] => .nil
  | p :: r => .cons rfl (vals_refs r)
def rSortedT (K : PySem.W.Frag) : List V → Hp → VK → Prop := fun vs H Q => ∃ (a : Addr) (prs : List (Addr × List Int)), vs = [V.ref a] ∧ SqL K H a (prs.map fun p => V.ref p.1) ∧ (∀ p ∈ prs, p.2 ≠ [] ∧ SqT K H p.1 (p.2.map V.int)) ∧
  ∀ (prs' : List (Addr × List Int)) (l : Addr), prs'.Perm prs → prs'.Pairwise (fun a b => ilt b.2 a.2 = false) → H l = none → Q (.ref l) (upd H l (.lst (prs'.map fun p => V.ref p.1)))
def pickA (b x : Addr × List Int) : Addr × List Int := if ilt x.2 b.2 = true then x else b
def minA : List (Addr × List Int) → V
  | [] => .non
  | p :: r => .ref (r.foldl pickA p).1
def rMinD (K : PySem.W.Frag) : List V → Hp → VK → Prop := fun vs H Q => ∃ (a : Addr) (prs : List (Addr × List Int)), vs = [V.ref a] ∧ SqL K H a (prs.map fun p => V.ref p.1) ∧ (∀ p ∈ prs, SqT K H p.1 (p.2.map V.int)) ∧ Q (minA prs) H
theorem fold_pick : ∀ (r : List (Addr × List Int)) (p : Addr × List Int), (r.map fun q => (Value.ref q.1, q.2)).foldl pickI (Value.ref p.1, p.2) = (Value.ref (r.foldl pickA p).1, (r.foldl pickA p).2)
  | [], p => rfl
  | q :: r, p => by
    rw [List.map_cons, List.foldl_cons, List.foldl_cons]
    have e : pickI (Value.ref p.1, p.2) (Value.ref q.1, q.2) = (Value.ref (pickA p q).1, (pickA p q).2) := by
      unfold pickI pickA
      dsimp only
      split <;> rfl
    rw [e]
    exact fold_pick r (pickA p q)
section
variable {X : Cx}
theorem cr_sortedT : CallR X (.builtin "sorted") (rSortedT X.K) := by
  intro pins s σ H vs us Q I r h
  obtain ⟨a, prs, rfl, hs, hT, q⟩ := h
  obtain ⟨its, rv, hl, hz⟩ := I.list hs
  have e := refs_vals rv
  subst e
  rw [Vals.ref1 r]
  rw [List.length_map] at hz
  refine sorted_tup_raw hl.isList (fun p hp => ?_) hz fun prs' out h1 h2 h3 => ?_
  · obtain ⟨hn, ht⟩ := hT p hp
    obtain ⟨its2, rv2, t2, _⟩ := I.tuple ht
    exact ⟨hn, its2, t2, rv2.ints⟩
  · obtain ⟨ep, he'⟩ := PyProof.Rows.sortedAll_at s.heap (prs.map fun p => Value.ref p.1) out
    have hlen : (prs'.map fun p => V.ref p.1).length ≤ sizeLine := by rw [List.length_map, h2.length_eq]; exact hz
    exact ⟨.ref _, upd H (s.heap.objs.size + 1) (.lst (prs'.map fun p => V.ref p.1)), I.laid (t' := s.toks) (fun _ _ => PyProof.Rows.sortedAll_old) (Nat.le_succ _) ⟨hlen, out.toList, ep, by rw [h1]; exact vals_refs prs', he'⟩, rfl, q prs' _ h2 h3 (I.hok.fresh (Nat.le_succ _))⟩
/-- min(e, default=None) -/
theorem pe_minD {e : Expr} {t : TA} {p pos kp kpos : Pos} {j : Nat} (hc : X.calm = true) (hu : X.A.units + 1 < cLine) (hg : Gl X "min") (hm : X.mg "min" = none) (ha : PA X [e] t)
    (he : starEach [e] X.env = (false, eval e X.env) :: starEach [] X.env := by rfl) :
    PE X (.Call (.Name "min" p) [e] [⟨some (Str.ofString "default"), .Constant .none j kp, kpos⟩] pos) (tCB (rMinD X.K) t) := by
  intro pins s σ H Q I h
  refine wpAny_Call_Name_kw (ld_blt I hg hm PyProof.Rows.boot_min ?_)
  refine PyProof.Rows.callWith_kw (thn (ha pos pins s σ H _ I h) fun us s1 ⟨vs, H1, I1, r1, q1⟩ => ?_) (by rw [he]; rfl) (by rw [he]; rfl)
  refine thn ((pk_cons (X := X) (nm := some (Str.ofString "default")) (kpos := kpos) (pe_non (X := X) (j := j) (pos := kp)) pk_nil) pos pins s1 σ H1 (fun zs H2 => zs = [V.non] ∧ H2 = H1) I1 ⟨rfl, rfl⟩) fun ws s2 ⟨zs, H2, I2, rz, e1, e2⟩ => ?_
  subst e1 e2
  cases rz with
  | cons rn rt =>
    cases rt
    cases rn
    obtain ⟨a, prs, rfl, hs, hT, q⟩ := q1
    obtain ⟨its, rv, hl, hz⟩ := I2.list hs
    have e := refs_vals rv
    subst e
    rw [Vals.ref1 r1]
    refine min_tup_default (prs := prs.map fun q => (Value.ref q.1, q.2)) (I2.ok.hd hc) hu hl.isList (by rw [List.map_map]; rfl) (fun x hx => ?_) fun h' tk' hk => ?_
    · obtain ⟨p, hp, rfl⟩ := List.mem_map.mp hx
      obtain ⟨its2, rv2, t2, _⟩ := I2.tuple (hT p hp)
      exact ⟨p.1, its2, rfl, t2, rv2.ints⟩
    · refine ⟨minA prs, _, I2.kept (t' := tk') hk, ?_, q⟩
      cases prs with
      | nil => rfl
      | cons p r =>
        show RelV (.ref (r.foldl pickA p).1) ((r.map fun q => (Value.ref q.1, q.2)).foldl pickI (Value.ref p.1, p.2)).1
        rw [fold_pick]
        rfl
end
end LF
end

section
set_option Elab.async false
set_option linter.all false
set_option maxRecDepth 100000
namespace LF
open PySem PySem.Spec PyProof.Rows L2
abbrev St := L2.St
/-! ### pure readings -/
def Pu (t : TE) (σ : St) (H : Hp) (v : V) : Prop := ∀ Q : VK, Q v H → t σ H Q
def Pt (t : TT) (σ : St) (H : Hp) (c : Bool) : Prop := ∀ Q : Bool → Hp → Prop, Q c H → t σ H Q
def Pa (t : TA) (σ : St) (H : Hp) (vs : List V) : Prop := ∀ Q : List V → Hp → Prop, Q vs H → t σ H Q
/-- a value as a test -/
def tTru (K : PySem.W.Frag) (t : TE) : TT := fun σ H Q => t σ H fun x H' => ∃ k, TruV K x H' k ∧ Q k H'
theorem ptru {X : Cx} {a : Expr} {ta : TE} (ha : PE X a ta) (he : ∀ whole, isTrue a X.env whole = (do let v ← whole; standAt a.pos; holding [v] (truthy v)) := by exact fun _ => rfl) : PT X a (tTru X.K ta) := pt_truth ha he
section
variable {σ : St} {H : Hp} {ta tb : TE} {v : V} {i j : Int} {c d : Bool} {K : PySem.W.Frag}
theorem pu_v {k : Nat} (h : σ[k]? = some (some v) := by rfl) : Pu (tVar k) σ H v := fun _ q => ⟨v, h, q⟩
theorem pu_c : Pu (tC v) σ H v := fun _ q => q
theorem pu_fld {a C dx : Addr} {fs : List (Str × V)} {f : Str} (h : Pu ta σ H (.ref a)) (hp : H a = some (.ins C dx fs)) (cl : Cls K C) (n : NoAttr K C f) (l : fs.lookup f = some v) : Pu (tFld K ta f) σ H v :=
  fun _ q => h _ ⟨a, C, dx, fs, v, rfl, hp, cl, n, l, q⟩
theorem pu_0 {g : Int → Int → V} (ha : Pu ta σ H (.int i)) (hb : Pu tb σ H (.int j)) : Pu (tOp (rI0 g) ta tb) σ H (g i j) := fun _ q => ha _ (hb _ ⟨i, j, rfl, rfl, q⟩)
theorem pu_C {C : Int → Int → Prop} {g : Int → Int → V} (ha : Pu ta σ H (.int i)) (hb : Pu tb σ H (.int j)) (hC : C i j) : Pu (tOp (rI C g) ta tb) σ H (g i j) := fun _ q => ha _ (hb _ ⟨i, j, rfl, rfl, hC, q⟩)
theorem pu_eq {x y : V} (ha : Pu ta σ H x) (hb : Pu tb σ H y) (h : scal x y = true := by rfl) : Pu (tOp rEq ta tb) σ H (.bl (decide (x = y))) := fun _ q => ha _ (hb _ ⟨h, q⟩)
theorem pu_ne {x y : V} (ha : Pu ta σ H x) (hb : Pu tb σ H y) (h : scal x y = true := by rfl) : Pu (tOp rNe ta tb) σ H (.bl (!decide (x = y))) := fun _ q => ha _ (hb _ ⟨h, q⟩)
theorem pu_isN {x : V} (ha : Pu ta σ H x) : Pu (tIsN ta) σ H (.bl (decide (x = .non))) := fun _ q => ha _ q
theorem pu_notN {x : V} (ha : Pu ta σ H x) : Pu (tNotN ta) σ H (.bl (!decide (x = .non))) := fun _ q => ha _ q
theorem pu_U {g : Int → V} (ha : Pu ta σ H (.int i)) : Pu (tUn (rU g) ta) σ H (g i) := fun _ q => ha _ ⟨i, rfl, q⟩
theorem pu_and (ha : Pu ta σ H (.bl c)) (hb : c = true → Pu tb σ H (.bl d)) : Pu (tAndV ta tb) σ H (.bl (c && d)) := fun _ q => ha _ ⟨c, rfl, by
  cases c with
  | true => rw [if_pos rfl]; exact hb rfl _ q
  | false => rw [if_neg Bool.false_ne_true]; exact q⟩
theorem pu_or (ha : Pu ta σ H (.bl c)) (hb : c = false → Pu tb σ H (.bl d)) : Pu (tOrV ta tb) σ H (.bl (c || d)) := fun _ q => ha _ ⟨c, rfl, by
  cases c with
  | true => rw [if_pos rfl]; exact q
  | false => rw [if_neg Bool.false_ne_true]; exact hb rfl _ q⟩
theorem pu_not (ha : Pu ta σ H (.bl c)) : Pu (tNotV ta) σ H (.bl (!c)) := fun _ q => ha _ ⟨c, rfl, q⟩
theorem pu_ixL {p : Addr} {xs : List V} (ha : Pu ta σ H (.ref p)) (hb : Pu tb σ H (.int i)) (hs : SqL K H p xs) (h : atI xs i = some v) : Pu (tOp (rIxL K) ta tb) σ H v := fun _ q => ha _ (hb _ ⟨p, xs, i, v, rfl, rfl, hs, h, q⟩)
theorem pu_ixT {p : Addr} {xs : List V} (ha : Pu ta σ H (.ref p)) (hb : Pu tb σ H (.int i)) (hs : SqT K H p xs) (h : atI xs i = some v) : Pu (tOp (rIxT K) ta tb) σ H v := fun _ q => ha _ (hb _ ⟨p, xs, i, v, rfl, rfl, hs, h, q⟩)
theorem pa_0 : Pa tNil σ H [] := fun _ q => q
theorem pa_1 {tr : TA} {vs : List V} (ha : Pu ta σ H v) (hr : Pa tr σ H vs) : Pa (tCons ta tr) σ H (v :: vs) := fun _ q => ha _ (hr _ q)
theorem pu_len {p : Addr} {xs : List V} {t : TA} (ha : Pa t σ H [.ref p]) (hs : SqL K H p xs) : Pu (tCB (fun xs H Q => ∃ p ys, xs = [.ref p] ∧ (SqL K H p ys ∨ SqT K H p ys) ∧ Q (.int ys.length) H) t) σ H (.int xs.length) := fun _ q => ha _ ⟨p, xs, rfl, .inl hs, q⟩
theorem pu_max {t : TA} (ha : Pa t σ H [.int i, .int j]) : Pu (tCB (fun xs H Q => ∃ i j, xs = [V.int i, V.int j] ∧ Q (.int (if j > i then j else i)) H) t) σ H (.int (max i j)) := fun _ q => ha _ ⟨i, j, rfl, by
  have e : (if j > i then j else i) = max i j := by rw [Int.max_def]; split <;> split <;> omega
  rw [e]; exact q⟩
theorem pu_min {t : TA} (ha : Pa t σ H [.int i, .int j]) : Pu (tCB (fun xs H Q => ∃ i j, xs = [V.int i, V.int j] ∧ Q (.int (if j < i then j else i)) H) t) σ H (.int (min i j)) := fun _ q => ha _ ⟨i, j, rfl, by
  have e : (if j < i then j else i) = min i j := by rw [Int.min_def]; split <;> split <;> omega
  rw [e]; exact q⟩
theorem pt_of {t : TE} (h : Pu t σ H (.bl c)) : Pt (tTest t) σ H c := fun _ q => h _ ⟨c, rfl, q⟩
theorem pt_B {t : TE} (h : Pu t σ H (.bl c)) : Pt (tB t) σ H c := fun _ q => h _ ⟨c, rfl, q⟩
theorem pt_and' {t u : TT} (ha : Pt t σ H c) (hb : c = true → Pt u σ H d) : Pt (tAnd t u) σ H (c && d) := fun _ q => ha _ (by
  cases c with
  | true => rw [if_pos rfl]; exact hb rfl _ q
  | false => rw [if_neg Bool.false_ne_true]; exact q)
theorem pt_or' {t u : TT} (ha : Pt t σ H c) (hb : c = false → Pt u σ H d) : Pt (tOr t u) σ H (c || d) := fun _ q => ha _ (by
  cases c with
  | true => rw [if_pos rfl]; exact q
  | false => rw [if_neg Bool.false_ne_true]; exact hb rfl _ q)
theorem pt_not' {t : TT} (ha : Pt t σ H c) : Pt (tNot t) σ H (!c) := fun _ q => ha _ q
theorem pt_bl {t : TE} (ha : Pu t σ H (.bl c)) : Pt (tTru K t) σ H c := fun _ q => ha _ ⟨c, rfl, q⟩
end
theorem if_s0 {c : TT} {t r : TS} {D : Ends} {σ : St} {H : Hp} {b : Bool} (hc : Pt c σ H b) (h1 : b = true → t { D with nx := r D } σ H) (h2 : b = false → r D σ H) : tSeq (tIfS c t tNext) r D σ H := hc _ (by
  cases b with
  | true => exact iteT (h1 rfl)
  | false => exact iteF (h2 rfl))
theorem if_10 {c : TT} {t : TS} {D : Ends} {σ : St} {H : Hp} {b : Bool} (hc : Pt c σ H b) (h1 : b = true → t D σ H) (h2 : b = false → D.nx σ H) : tIfS c t tNext D σ H := hc _ (by
  cases b with
  | true => exact iteT (h1 rfl)
  | false => exact iteF (h2 rfl))
/-- an if without else that changes the heap alone: P holds behind it -/
theorem if_sj {c : TT} {t r : TS} {D : Ends} {σ : St} {H : Hp} {b : Bool} (P : Hp → Prop) (hc : Pt c σ H b) (h1 : b = true → ∀ N : St → Hp → Prop, (∀ H', P H' → N σ H') → t { D with nx := N } σ H) (h2 : b = false → P H) (h3 : ∀ H', P H' → r D σ H') : tSeq (tIfS c t tNext) r D σ H := hc _ (by
  cases b with
  | true => exact iteT (h1 rfl _ h3)
  | false => exact iteF (h3 _ (h2 rfl)))
theorem app_s {K : PySem.W.Frag} {to te : TE} {r : TS} {D : Ends} {σ : St} {H : Hp} {l : Addr} {xs : List V} {y : V} (ho : Pu to σ H (.ref l)) (he : Pu te σ H y) (hl : H l = some (.lst xs)) (hz : xs.length < sizeLine) (h : r D σ (upd H l (.lst (xs ++ [y])))) :
    tSeq (tDrop (tBM K "list" rAppend to (tCons te tNil))) r D σ H := ho _ ⟨.inl ⟨rfl, _, SqL.of hl⟩, he _ ⟨l, xs, y, rfl, rfl, hl, hz, h⟩⟩
theorem app_of {K : PySem.W.Frag} {to te : TE} {D : Ends} {σ : St} {H : Hp} {l : Addr} {xs : List V} (ho : Pu to σ H (.ref l)) (hl : H l = some (.lst xs)) (h : te σ H fun y H2 => rAppend (.ref l) [y] H2 fun _ H3 => D.nx σ H3) :
    tDrop (tBM K "list" rAppend to (tCons te tNil)) D σ H := ho _ ⟨.inl ⟨rfl, _, SqL.of hl⟩, h⟩
theorem app_ofs {K : PySem.W.Frag} {to te : TE} {r : TS} {D : Ends} {σ : St} {H : Hp} {l : Addr} {xs : List V} (ho : Pu to σ H (.ref l)) (hl : H l = some (.lst xs)) (h : te σ H fun y H2 => rAppend (.ref l) [y] H2 fun _ H3 => r D σ H3) :
    tSeq (tDrop (tBM K "list" rAppend to (tCons te tNil))) r D σ H := ho _ ⟨.inl ⟨rfl, _, SqL.of hl⟩, h⟩
theorem tup_in {t : TA} {σ : St} {H : Hp} {Q : VK} {us : List V} (ha : Pa t σ H us) (hz : us.length ≤ sizeLine) (h : ∀ p, H p = none → Q (.ref p) (upd H p (.tup us))) : tTup t σ H Q := ha _ ⟨hz, h⟩
theorem lst_in {t : TA} {σ : St} {H : Hp} {Q : VK} {us : List V} (ha : Pa t σ H us) (hz : us.length ≤ sizeLine) (h : ∀ p, H p = none → Q (.ref p) (upd H p (.lst us))) : tLst t σ H Q := ha _ ⟨hz, h⟩
theorem lt_line {n : Nat} (h : n ≤ 100000) : n < sizeLine := Nat.lt_of_le_of_lt h (by decide)
theorem set_s {i : Nat} {te : TE} {r : TS} {D : Ends} {σ : St} {H : Hp} {v : V} (he : Pu te σ H v) (h : r D (σ.set i (some v)) H) : tSeq (tAsg te (gName i)) r D σ H := he _ h
theorem ret_1 {te : TE} {D : Ends} {σ : St} {H : Hp} {v : V} (he : Pu te σ H v) (h : D.rt v H) : tRet te D σ H := he _ h
/-! ### rules whose readings name the written part K alone (within a comprehension) -/
section
variable {X : Cx} {K : PySem.W.Frag}
theorem ix_listK (hK : X.K = K := by rfl) : IxR X (rIxL K) := by subst hK; exact ix_list
theorem pe_fldK {e : Expr} {f : Str} {pos : Pos} {ta : TE} (he : PE X e ta) (hb : attributeBase e f X.env (eval e X.env) = eval e X.env := by rfl) (hK : X.K = K := by rfl) : PE X (.Attribute e f pos) (tFld K ta f) := by subst hK; exact pe_fld he hb
theorem ptruK {a : Expr} {ta : TE} (ha : PE X a ta) (he : ∀ whole, isTrue a X.env whole = (do let v ← whole; standAt a.pos; holding [v] (truthy v)) := by exact fun _ => rfl) (hK : X.K = K := by rfl) : PT X a (tTru K ta) := by subst hK; exact ptru ha he
end
/-! ### globals -/
def GI (mg : Str → Option Value) (x : Str) (n : Int) : Prop := ∃ u, mg x = some u ∧ RelV (.int n) u
theorem pgi {X : Cx} {x : Str} {n : Int} {pos : Pos} (g : GI X.mg x n) (hg : Gl X x := by rfl) (hd : (x == ("__debug__" : Str)) = false := by decide) : PE X (.Name x pos) (tC (.int n)) :=
  let ⟨_, h, r⟩ := g; pe_glob hg h r hd
/-! ### a class of the text -/
structure TC (K : PySem.W.Frag) (mg : Str → Option Value) (nm : Str) (C fI : Addr) (fs : List Str) : Prop where
  cl : Cls K C
  mki : Mk K C fI
  mgC : mg nm = some (.ref C)
  no : ∀ f ∈ fs, NoAttr K C f
theorem TC.f {K : PySem.W.Frag} {mg : Str → Option Value} {nm : Str} {C fI : Addr} {fs : List Str} (T : TC K mg nm C fI fs) (i : Nat) {f : Str} (h : fs[i]? = some f := by rfl) : NoAttr K C f := T.no f (List.mem_of_getElem? h)
/-- a new instance with its attributes -/
def mkI (H : Hp) (C x dx : Addr) (fs : List (Str × V)) : Hp := upd (upd H dx (.own x)) x (.ins C dx fs)
theorem mkI_at {H : Hp} {C x dx : Addr} {fs : List (Str × V)} : mkI H C x dx fs x = some (.ins C dx fs) := upd_same
theorem mkI_same {H : Hp} {C x dx : Addr} {fs : List (Str × V)} (nx : H x = none) (nd : H dx = none) : Same H (mkI H C x dx fs) := fun b o e => by
  unfold mkI
  rw [upd_ne (ne_of_none e nx), upd_ne (ne_of_none e nd)]
  exact e
theorem same_new {H : Hp} {x : Addr} {o : HO} (nx : H x = none) : Same H (upd H x o) := fun b u e => by
  rw [upd_ne (ne_of_none e nx)]
  exact e
/-- __init__: the arguments become attributes -/
def spI (C : Addr) (n : Nat) (F : List V → List (Str × V) → Prop) : Sp := fun vs H Q _ => ∃ (p dx : Addr) (us : List V) (fs : List (Str × V)), vs = .ref p :: us ∧ us.length = n ∧ H p = some (.ins C dx []) ∧ F us fs ∧ Q .non (upd H p (.ins C dx fs))
theorem pu_makeP {C : Addr} {n : Nat} {F : List V → List (Str × V) → Prop} {t : TA} {σ : St} {H : Hp} {E : XK} {us : List V} {fs : List (Str × V)} {Q : VK} (ha : Pa t σ H us)
    (hl : us.length = n) (hF : F us fs) (hQ : ∀ x dx, H x = none → H dx = none → dx ≠ x → Q (.ref x) (mkI H C x dx fs)) : tMake C (spI C n F) [] E t σ H Q := by
  refine ha _ ?_
  intro x dx nx nd ne
  refine ⟨x, dx, _, fs, rfl, by rw [List.append_nil]; exact hl, upd_same, by rw [List.append_nil]; exact hF, rfl, ?_⟩
  rw [upd_upd]
  exact hQ x dx nx nd ne
theorem yes_s {σ : St} {H : Hp} {R S : Hp → Prop} (h : R H) : tYes σ H (fun b H3 => if b = true then R H3 else S H3) := iteT (A := R H) (B := S H) h
theorem tst_s {c : TT} {σ : St} {H : Hp} {R S : Hp → Prop} {b : Bool} (hc : Pt c σ H b) (h1 : b = true → R H) (h2 : b = false → S H) : c σ H (fun b H3 => if b = true then R H3 else S H3) := hc _ (by
  cases b with
  | true => exact iteT (h1 rfl)
  | false => exact iteF (h2 rfl))
theorem cb_1 {r : List V → Hp → VK → Prop} {te : TE} {σ : St} {H : Hp} {Q : VK} (h : te σ H fun x H1 => r [x] H1 Q) : tCB r (tCons te tNil) σ H Q := h
theorem ret_of {te : TE} {D : Ends} {σ : St} {H : Hp} (h : te σ H D.rt) : tRet te D σ H := h
theorem asg_s {i : Nat} {te : TE} {r : TS} {D : Ends} {σ : St} {H : Hp} (h : te σ H fun v H' => r D (σ.set i (some v)) H') : tSeq (tAsg te (gName i)) r D σ H := h
/-- a while by its invariant, with a measure in it -/
theorem while_pt {c : TT} {tb r : TS} {D : Ends} {σ : St} {H : Hp} (Pv : Nat → St → Hp → Prop) (n0 : Nat) (h0 : Pv n0 σ H)
    (hs : ∀ m σ H, Pv m σ H → ∃ b, Pt c σ H b ∧ (b = true → ∀ N : St → Hp → Prop, (∀ m' σ' H', m' < m → Pv m' σ' H' → N σ' H') → tb { D with nx := N, ct := N, bk := r D } σ H) ∧ (b = false → r D σ H)) : tSeq (tWhile c tb) r D σ H := by
  refine ⟨Pv, ⟨n0, h0⟩, fun m σ H p => ?_⟩
  obtain ⟨b, hc, h1, h2⟩ := hs m σ H p
  refine hc _ ?_
  cases b with
  | true => exact iteT ⟨fun σ' H' => ∃ m', m' < m ∧ Pv m' σ' H', fun σ' H' h => h, h1 rfl _ fun m' σ' H' l q => ⟨m', l, q⟩⟩
  | false => exact iteF (h2 rfl)
/-! ### what a comprehension asks behind its source -/
abbrev LcR (J : It) (g : TG) (tt : TT) (te : TE) (vs : List Nat) (σ : St) (Q : VK) (H1 : Hp) : Prop := ∀ D, H1 D = none → ∃ W : Nat → Nat → Hp → Prop, (∃ m, W 0 m (upd H1 D (.lst []))) ∧ ∀ i m H, W i m H →
  (J.stop i H ∧ Q (.ref D) H) ∨ (J.go i H ∧ ∃ Nx : Hp → Prop, (∀ H', Nx H' → ∃ m', m' < m ∧ W (i + 1) m' H') ∧ ∀ x H', J.yld i H x H' → g x (wipe σ vs) H' fun σ2 H2 => wipe σ2 vs = wipe σ vs ∧ tt σ2 H2 fun b H3 =>
    if b = true then te σ2 H3 fun y H4 => ∃ acc, H4 D = some (.lst acc) ∧ acc.length < sizeLine ∧ Nx (upd H4 D (.lst (acc ++ [y]))) else Nx H3)
section
variable {K : PySem.W.Frag} {g : TG} {tt : TT} {te : TE} {vs : List Nat} {σ : St} {H : Hp} {Q : VK}
theorem lc_r3 {ta : TA} {i j c : Int} {n : Nat} (ha : Pa ta σ H [.int i, .int j, .int c]) (hr : RgC i j c n) (h : LcR (Itc i c n) g tt te vs σ Q H) : tLc (iRng3 ta) g tt te vs σ H Q := ha _ ⟨i, j, c, n, rfl, hr, h⟩
theorem lc_r1 {ta : TA} {j : Int} (ha : Pa ta σ H [.int j]) (h1 : -(2 ^ 62) ≤ j) (h2 : j < 2 ^ 62) (h : LcR (Itr 0 j.toNat) g tt te vs σ Q H) : tLc (iRng1 ta) g tt te vs σ H Q := ha _ ⟨j, rfl, h1, h2, h⟩
theorem lc_l {tl : TE} {a : Addr} {xs : List V} (ha : Pu tl σ H (.ref a)) (hs : SqL K H a xs) (h : LcR (Itl K a) g tt te vs σ Q H) : tLc (iList K tl) g tt te vs σ H Q := ha _ ⟨a, rfl, ⟨xs, hs⟩, h⟩
theorem lc_e {ta : TA} {a : Addr} {xs : List V} (ha : Pa ta σ H [.ref a]) (hs : SqL K H a xs) (h : LcR (Ite K a) g tt te vs σ Q H) : tLc (iEnum K ta) g tt te vs σ H Q := ha _ ⟨a, xs, rfl, hs, h⟩
end
/-! ### what a for asks behind its source -/
abbrev ForR (J : It) (g : TG) (tb : TS) (D : Ends) (σ : St) (H1 : Hp) : Prop := ∃ W : Nat → Nat → St → Hp → Prop, (∃ m, W 0 m σ H1) ∧ ∀ i m σ H, W i m σ H →
  (J.stop i H ∧ D.nx σ H) ∨ (J.go i H ∧ ∃ N : St → Hp → Prop, (∀ σ' H', N σ' H' → ∃ m', m' < m ∧ W (i + 1) m' σ' H') ∧ ∀ x H', J.yld i H x H' → g x σ H' fun σ2 H2 => tb { D with nx := N, ct := N, bk := D.nx } σ2 H2)
section
variable {K : PySem.W.Frag} {g : TG} {tb r : TS} {D : Ends} {σ : St} {H : Hp}
theorem for_r2 {ta : TA} {i j : Int} (ha : Pa ta σ H [.int i, .int j]) (h1 : -(2 ^ 62) ≤ i ∧ i < 2 ^ 62 ∧ -(2 ^ 62) ≤ j ∧ j < 2 ^ 62) (h : ForR (Itr i (j - i).toNat) g tb { D with nx := r D } σ H) : tSeq (tFor (iRng2 ta) g tb) r D σ H := ha _ ⟨i, j, rfl, h1, h⟩
theorem for_r3 {ta : TA} {i j c : Int} {n : Nat} (ha : Pa ta σ H [.int i, .int j, .int c]) (hr : RgC i j c n) (h : ForR (Itc i c n) g tb { D with nx := r D } σ H) : tSeq (tFor (iRng3 ta) g tb) r D σ H := ha _ ⟨i, j, c, n, rfl, hr, h⟩
theorem for_l {tl : TE} {a : Addr} {xs : List V} (ha : Pu tl σ H (.ref a)) (hs : SqL K H a xs) (h : ForR (Itl K a) g tb { D with nx := r D } σ H) : tSeq (tFor (iList K tl) g tb) r D σ H := ha _ ⟨a, rfl, ⟨xs, hs⟩, h⟩
end
/-! ### loops over enumerate, range with a step -/
theorem for_enum {K : PySem.W.Frag} {a : Addr} {xs : List V} {g : TG} {tb : TS} {D : Ends} {σ : St} {H : Hp} (Pv : Nat → St → Hp → Prop) (h0 : Pv 0 σ H) (hl : ∀ i σ H, i ≤ xs.length → Pv i σ H → SqL K H a xs)
    (hs : ∀ i x σ H T, xs[i]? = some x → Pv i σ H → H T = none → g (.ref T) σ (upd H T (.tup [.int (i : Nat), x])) fun σ2 H2 => tb { D with nx := Pv (i + 1), ct := Pv (i + 1), bk := D.nx } σ2 H2) (hd : ∀ σ H, Pv xs.length σ H → D.nx σ H) :
    ∃ W : Nat → Nat → St → Hp → Prop, (∃ m, W 0 m σ H) ∧ ∀ i m σ H, W i m σ H →
      ((Ite K a).stop i H ∧ D.nx σ H) ∨ ((Ite K a).go i H ∧ ∃ N : St → Hp → Prop, (∀ σ' H', N σ' H' → ∃ m', m' < m ∧ W (i + 1) m' σ' H') ∧ ∀ x H', (Ite K a).yld i H x H' → g x σ H' fun σ2 H2 => tb { D with nx := N, ct := N, bk := D.nx } σ2 H2) := by
  refine ⟨fun i m σ H => m = xs.length - i ∧ i ≤ xs.length ∧ Pv i σ H, ⟨xs.length, by simp, Nat.zero_le _, h0⟩, ?_⟩
  rintro i m σ H ⟨rfl, hi, p⟩
  have q := hl i σ H hi p
  by_cases hlt : i < xs.length
  · refine .inr ⟨⟨xs, xs[i], q, by simp [hlt]⟩, Pv (i + 1), fun σ' H' p' => ⟨xs.length - (i + 1), by omega, rfl, hlt, p'⟩, fun v H' y => ?_⟩
    obtain ⟨T, x, rfl, hT, rfl, y⟩ := y
    exact hs i x σ H T (y xs q) p hT
  · have e : i = xs.length := by omega
    subst e
    exact .inl ⟨⟨xs, q, Nat.le_refl _⟩, hd σ H p⟩
theorem lc_enum {K : PySem.W.Frag} {a : Addr} {xs : List V} {g : TG} {tt : TT} {te : TE} {vs : List Nat} {σ : St} {H1 : Hp} {D : Addr} {Qd : Hp → Prop} (Pv : Nat → Hp → Prop) (h0 : Pv 0 (upd H1 D (.lst []))) (hl : ∀ i H, i ≤ xs.length → Pv i H → SqL K H a xs)
    (hs : ∀ i x H T, xs[i]? = some x → Pv i H → H T = none → g (.ref T) (wipe σ vs) (upd H T (.tup [.int (i : Nat), x])) fun σ2 H2 => wipe σ2 vs = wipe σ vs ∧ tt σ2 H2 fun b H3 =>
      if b = true then te σ2 H3 fun y H4 => ∃ acc, H4 D = some (.lst acc) ∧ acc.length < sizeLine ∧ Pv (i + 1) (upd H4 D (.lst (acc ++ [y]))) else Pv (i + 1) H3) (hd : ∀ H, Pv xs.length H → Qd H) :
    ∃ W : Nat → Nat → Hp → Prop, (∃ m, W 0 m (upd H1 D (.lst []))) ∧ ∀ i m H, W i m H →
      ((Ite K a).stop i H ∧ Qd H) ∨ ((Ite K a).go i H ∧ ∃ Nx : Hp → Prop, (∀ H', Nx H' → ∃ m', m' < m ∧ W (i + 1) m' H') ∧ ∀ x H', (Ite K a).yld i H x H' → g x (wipe σ vs) H' fun σ2 H2 => wipe σ2 vs = wipe σ vs ∧ tt σ2 H2 fun b H3 =>
        if b = true then te σ2 H3 fun y H4 => ∃ acc, H4 D = some (.lst acc) ∧ acc.length < sizeLine ∧ Nx (upd H4 D (.lst (acc ++ [y]))) else Nx H3) := by
  refine ⟨fun i m H => m = xs.length - i ∧ i ≤ xs.length ∧ Pv i H, ⟨xs.length, by simp, Nat.zero_le _, h0⟩, ?_⟩
  rintro i m H ⟨rfl, hi, p⟩
  have q := hl i H hi p
  by_cases hlt : i < xs.length
  · refine .inr ⟨⟨xs, xs[i], q, by simp [hlt]⟩, Pv (i + 1), fun H' p' => ⟨xs.length - (i + 1), by omega, rfl, hlt, p'⟩, fun v H' y => ?_⟩
    obtain ⟨T, x, rfl, hT, rfl, y⟩ := y
    exact hs i x H T (y xs q) p hT
  · have e : i = xs.length := by omega
    subst e
    exact .inl ⟨⟨xs, q, Nat.le_refl _⟩, hd H p⟩
theorem lc_rangeC {lo c : Int} {n : Nat} {g : TG} {tt : TT} {te : TE} {vs : List Nat} {σ : St} {H1 : Hp} {D : Addr} {Qd : Hp → Prop} (Pv : Nat → Hp → Prop) (h0 : Pv 0 (upd H1 D (.lst [])))
    (hs : ∀ i H, i < n → Pv i H → g (.int (lo + (i : Nat) * c)) (wipe σ vs) H fun σ2 H2 => wipe σ2 vs = wipe σ vs ∧ tt σ2 H2 fun b H3 =>
      if b = true then te σ2 H3 fun y H4 => ∃ acc, H4 D = some (.lst acc) ∧ acc.length < sizeLine ∧ Pv (i + 1) (upd H4 D (.lst (acc ++ [y]))) else Pv (i + 1) H3) (hd : ∀ H, Pv n H → Qd H) :
    ∃ W : Nat → Nat → Hp → Prop, (∃ m, W 0 m (upd H1 D (.lst []))) ∧ ∀ i m H, W i m H →
      ((Itc lo c n).stop i H ∧ Qd H) ∨ ((Itc lo c n).go i H ∧ ∃ Nx : Hp → Prop, (∀ H', Nx H' → ∃ m', m' < m ∧ W (i + 1) m' H') ∧ ∀ x H', (Itc lo c n).yld i H x H' → g x (wipe σ vs) H' fun σ2 H2 => wipe σ2 vs = wipe σ vs ∧ tt σ2 H2 fun b H3 =>
        if b = true then te σ2 H3 fun y H4 => ∃ acc, H4 D = some (.lst acc) ∧ acc.length < sizeLine ∧ Nx (upd H4 D (.lst (acc ++ [y]))) else Nx H3) := by
  refine ⟨fun i m H => m = n - i ∧ i ≤ n ∧ Pv i H, ⟨n, by simp, Nat.zero_le _, h0⟩, ?_⟩
  rintro i m H ⟨rfl, hi, p⟩
  by_cases hlt : i < n
  · refine .inr ⟨hlt, Pv (i + 1), fun H' p' => ⟨n - (i + 1), by omega, rfl, hlt, p'⟩, fun v H' y => ?_⟩
    obtain ⟨rfl, rfl⟩ := y
    exact hs i _ hlt p
  · have e : i = n := by omega
    subst e
    exact .inl ⟨Nat.le_refl _, hd H p⟩
end LF
end

section
set_option Elab.async false
set_option linter.all false
set_option maxRecDepth 100000
namespace LF
open PySem PySem.Spec PyProof.Rows L2
/-! ### the text by places -/
def top (i : Nat) : Stmt := PySem.Challenge.pw_leastfare_s01_answers.main.body.getD i (.Pass ⟨0, 0, 0, 0⟩)
abbrev sLegI : Stmt := inClass (top 8) 0
abbrev sFareI : Stmt := inClass (top 9) 0
abbrev sCardI : Stmt := inClass (top 10) 0
abbrev sTicketI : Stmt := inClass (top 11) 0
abbrev sStrI : Stmt := inClass (top 12) 0
abbrev sGrow : Stmt := inClass (top 12) 1
abbrev sLegsOf : Stmt := top 13
abbrev sIsLeg : Stmt := top 14
abbrev sIsJ : Stmt := top 15
abbrev sCov : Stmt := top 16
abbrev sCost : Stmt := top 17
abbrev sOffs : Stmt := top 18
abbrev sBOff : Stmt := top 19
abbrev sBPlan : Stmt := top 20
abbrev sTicks : Stmt := top 21
abbrev sCheap : Stmt := top 22
abbrev sTotal : Stmt := top 23
/-! ### what stands for what -/
def legF (l : Kct0.Leg) : List (Str × V) := [(Str.ofString "source", .int l.from_), (Str.ofString "to", .int l.to_), (Str.ofString "dep", .int l.dep), (Str.ofString "arr", .int l.arr)]
def fareF (f : Kct0.Fare) : List (Str × V) := [(Str.ofString "source", .int f.from_), (Str.ofString "to", .int f.to_), (Str.ofString "via", .int f.via), (Str.ofString "price", .int f.price), (Str.ofString "first", .int f.first), (Str.ofString "last", .int f.last), (Str.ofString "length", .int f.long), (Str.ofString "breaks", .int f.breaks), (Str.ofString "closed", .bl (!f.open_))]
def cardF (c : Kct0.Card) : List (Str × V) := [(Str.ofString "off", .int c.off), (Str.ofString "least", .int c.least)]
def strF (s : Stt) (pl : Addr) : List (Str × V) := [(Str.ofString "source", .int s.src), (Str.ofString "to", .int s.to), (Str.ofString "dep", .int s.dep), (Str.ofString "arr", .int s.arr), (Str.ofString "earliest", .int s.early), (Str.ofString "latest", .int s.late), (Str.ofString "breaks", .int s.breaks), (Str.ofString "passed", .ref pl)]
def LegAt (C : Addr) (H : Hp) (a : Addr) (l : Kct0.Leg) : Prop := ∃ dx, H a = some (.ins C dx (legF l))
def FareAt (C : Addr) (H : Hp) (a : Addr) (f : Kct0.Fare) : Prop := ∃ dx, H a = some (.ins C dx (fareF f))
def CardAt (C : Addr) (H : Hp) (a : Addr) (c : Kct0.Card) : Prop := ∃ dx, H a = some (.ins C dx (cardF c))
def nats (l : List Nat) : List V := l.map fun (n : Nat) => V.int (n : Int)
def StrAt (C : Addr) (H : Hp) (a : Addr) (s : Stt) : Prop := ∃ dx pl, H a = some (.ins C dx (strF s pl)) ∧ H pl = some (.lst (nats s.passed))
structure Objs {α : Type} (R : Addr → α → Prop) (as : List Addr) (xs : List α) : Prop where
  len : as.length = xs.length
  at_ : ∀ (i : Nat) (a : Addr) (x : α), as[i]? = some a → xs[i]? = some x → R a x
section
variable {α : Type} {R R' : Addr → α → Prop} {as : List Addr} {xs : List α}
theorem Objs.get (O : Objs R as xs) {i : Nat} {x : α} (h : xs[i]? = some x) : ∃ a, as[i]? = some a ∧ R a x := by
  have hi := (List.getElem?_eq_some_iff.mp h).1
  have e : as[i]? = some (as[i]'(by rw [O.len]; exact hi)) := List.getElem?_eq_getElem _
  exact ⟨_, e, O.at_ i _ x e h⟩
theorem Objs.get' (O : Objs R as xs) {i : Nat} {a : Addr} (h : as[i]? = some a) : ∃ x, xs[i]? = some x ∧ R a x := by
  have hi := (List.getElem?_eq_some_iff.mp h).1
  have e : xs[i]? = some (xs[i]'(by rw [← O.len]; exact hi)) := List.getElem?_eq_getElem _
  exact ⟨_, e, O.at_ i a _ h e⟩
theorem Objs.imp (O : Objs R as xs) (h : ∀ a x, R a x → R' a x) : Objs R' as xs := ⟨O.len, fun i a x h1 h2 => h a x (O.at_ i a x h1 h2)⟩
theorem Objs.nil : Objs R [] [] := ⟨rfl, fun i a x h _ => by simp at h⟩
theorem Objs.snoc (O : Objs R as xs) {a : Addr} {x : α} (h : R a x) : Objs R (as ++ [a]) (xs ++ [x]) := by
  refine ⟨by rw [List.length_append, List.length_append, O.len]; rfl, fun i b y h1 h2 => ?_⟩
  by_cases hi : i < as.length
  · rw [List.getElem?_append_left hi] at h1
    rw [List.getElem?_append_left (by rw [← O.len]; exact hi)] at h2
    exact O.at_ i b y h1 h2
  · rw [List.getElem?_append_right (by omega)] at h1
    rw [List.getElem?_append_right (by rw [← O.len]; omega), ← O.len] at h2
    cases e : i - as.length with
    | zero =>
      rw [e] at h1 h2
      have e1 : a = b := by simpa using h1
      have e2 : x = y := by simpa using h2
      rw [← e1, ← e2]; exact h
    | succ k => rw [e] at h1; simp at h1
end
def LegsAt (C : Addr) (H : Hp) (la : Addr) (ls : List Kct0.Leg) : Prop := ∃ as : List Addr, H la = some (.lst (as.map V.ref)) ∧ Objs (LegAt C H) as ls
def FaresAt (C : Addr) (H : Hp) (la : Addr) (fs : List Kct0.Fare) : Prop := ∃ as : List Addr, H la = some (.lst (as.map V.ref)) ∧ Objs (FareAt C H) as fs
theorem LegAt.same {C : Addr} {H H' : Hp} {a : Addr} {l : Kct0.Leg} (s : Same H H') (h : LegAt C H a l) : LegAt C H' a l := let ⟨dx, e⟩ := h; ⟨dx, s _ _ e⟩
theorem FareAt.same {C : Addr} {H H' : Hp} {a : Addr} {l : Kct0.Fare} (s : Same H H') (h : FareAt C H a l) : FareAt C H' a l := let ⟨dx, e⟩ := h; ⟨dx, s _ _ e⟩
theorem CardAt.same {C : Addr} {H H' : Hp} {a : Addr} {l : Kct0.Card} (s : Same H H') (h : CardAt C H a l) : CardAt C H' a l := let ⟨dx, e⟩ := h; ⟨dx, s _ _ e⟩
theorem LegsAt.same {C : Addr} {H H' : Hp} {a : Addr} {l : List Kct0.Leg} (s : Same H H') (h : LegsAt C H a l) : LegsAt C H' a l := let ⟨as, e, O⟩ := h; ⟨as, s _ _ e, O.imp fun _ _ => LegAt.same s⟩
theorem FaresAt.same {C : Addr} {H H' : Hp} {a : Addr} {l : List Kct0.Fare} (s : Same H H') (h : FaresAt C H a l) : FaresAt C H' a l := let ⟨as, e, O⟩ := h; ⟨as, s _ _ e, O.imp fun _ _ => FareAt.same s⟩
theorem ref_at {as : List Addr} {i : Nat} {v : V} (h : (as.map V.ref)[i]? = some v) : ∃ a, as[i]? = some a ∧ v = .ref a := by
  rw [List.getElem?_map] at h
  cases e : as[i]? with
  | none => rw [e] at h; cases h
  | some a => rw [e] at h; exact ⟨a, rfl, (Option.some.inj h).symm⟩
theorem at_ref {as : List Addr} {i : Nat} {a : Addr} (h : as[i]? = some a) : (as.map V.ref)[i]? = some (.ref a) := by rw [List.getElem?_map, h]; rfl
/-! ### the mathematics of a journey -/
def legOk (x : Kct0.Leg) : Bool := decide (x.from_ < Kct0.STOPS) && decide (x.to_ < Kct0.STOPS) && decide (x.dep ≤ x.arr) && decide (x.arr < Kct0.LATE)
theorem follows_iff : ∀ l : List Kct0.Leg, Kct0.follows l = true ↔ ∀ (j : Nat) (a b : Kct0.Leg), l[j]? = some a → l[j + 1]? = some b → a.to_ = b.from_ ∧ a.arr ≤ b.dep
  | [] => by simp [Kct0.follows]
  | [x] => by simp [Kct0.follows]
  | x :: y :: l => by
    have ih := follows_iff (y :: l)
    have e : Kct0.follows (x :: y :: l) = (x.to_ == y.from_ && decide (x.arr ≤ y.dep) && Kct0.follows (y :: l)) := rfl
    rw [e, Bool.and_eq_true, Bool.and_eq_true, ih, beq_iff_eq, decide_eq_true_iff]
    constructor
    · rintro ⟨h1, h2⟩ j a b ha hb
      cases j with
      | zero =>
        have e1 : x = a := by simpa using ha
        have e2 : y = b := by simpa using hb
        rw [← e1, ← e2]; exact h1
      | succ j => exact h2 j a b (by simpa using ha) (by simpa using hb)
    · intro h
      exact ⟨h 0 x y rfl rfl, fun j a b ha hb => h (j + 1) a b (by simpa using ha) (by simpa using hb)⟩
theorem isJourney_iff (l : List Kct0.Leg) : Kct0.isJourney l = true ↔ (1 ≤ l.length ∧ l.length ≤ 16) ∧ (∀ (j : Nat) (x : Kct0.Leg), l[j]? = some x → legOk x = true) ∧ (∀ (j : Nat) (a b : Kct0.Leg), l[j]? = some a → l[j + 1]? = some b → a.to_ = b.from_ ∧ a.arr ≤ b.dep) := by
  have e : Kct0.isJourney l = (decide (1 ≤ l.length) && decide (l.length ≤ 16) && l.all legOk && Kct0.follows l) := rfl
  rw [e, Bool.and_eq_true, Bool.and_eq_true, Bool.and_eq_true, follows_iff, decide_eq_true_iff, decide_eq_true_iff, List.all_eq_true]
  have e2 : (∀ x ∈ l, legOk x = true) ↔ ∀ (j : Nat) (x : Kct0.Leg), l[j]? = some x → legOk x = true :=
    ⟨fun h j x hx => h x (List.mem_of_getElem? hx), fun h x hx => by obtain ⟨j, hj⟩ := List.mem_iff_getElem?.mp hx; exact h j x hj⟩
  rw [e2, and_assoc]
section
variable {P : Program} {w : World} {K : PySem.W.Frag} {mg : Str → Option Value} {base : Heap}
/-! ### the classes -/
abbrev nLeg : List Str := ["source", "to", "dep", "arr"]
abbrev nFare : List Str := ["source", "to", "via", "price", "first", "last", "length", "breaks", "closed"]
abbrev nCard : List Str := ["off", "least"]
abbrev nTicket : List Str := ["fare", "start", "leg_count", "paid", "given_back"]
abbrev nStr : List Str := ["source", "to", "dep", "arr", "earliest", "latest", "breaks", "passed"]
def fLeg (us : List V) (fs : List (Str × V)) : Prop := ∃ l : Kct0.Leg, us = [.int l.from_, .int l.to_, .int l.dep, .int l.arr] ∧ fs = legF l
theorem scLeg : FnScope ["self", "source", "to", "dep", "arr"] ["self", "source", "to", "dep", "arr"] (defScope sLegI) := ⟨rfl, rfl, rfl, by decide +kernel, rfl, by decide +kernel, by decide +kernel⟩
theorem ok_legI {f C fI : Addr} {fd : FuncData} (F : Fun K "__init__" "Leg.__init__" sLegI f fd) (T : TC K mg "Leg" C fI nLeg) : FnOk P w K mg base CX0 1 f fd ["self", "source", "to", "dep", "arr"] (spI C 4 fLeg) := by
  refine F.ok scLeg (fun vs H Q E h => ?_) (fun cdv A outer s H vs Q E hr h => ?_)
  · obtain ⟨p, dx, us, fs, rfl, e, _⟩ := h
    rw [List.length_cons, e]; rfl
  · obtain ⟨p, dx, us, fs, rfl, _, hp, ⟨l, rfl, rfl⟩, k⟩ := h
    refine ⟨_, pss_cons (ps_fld (pv 0) (pv 1) rfl) (pss_cons (ps_fld (pv 0) (pv 2) rfl) (pss_cons (ps_fld (pv 0) (pv 3) rfl) (pss_one (ps_fld (pv 0) (pv 4) rfl)))), ?_⟩
    refine ⟨_, rfl, _, rfl, p, C, dx, _, rfl, hp, T.cl, T.f 0, (by show 0 < 1000; decide), ?_⟩
    refine ⟨_, rfl, _, rfl, p, C, dx, _, rfl, upd_same, T.cl, T.f 1, (by show 1 < 1000; decide), ?_⟩
    refine ⟨_, rfl, _, rfl, p, C, dx, _, rfl, upd_same, T.cl, T.f 2, (by show 2 < 1000; decide), ?_⟩
    refine ⟨_, rfl, _, rfl, p, C, dx, _, rfl, upd_same, T.cl, T.f 3, (by show 3 < 1000; decide), ?_⟩
    rw [upd_upd, upd_upd, upd_upd]
    exact k
def fCard (us : List V) (fs : List (Str × V)) : Prop := ∃ c : Kct0.Card, us = [.int c.off, .int c.least] ∧ fs = cardF c
theorem scCard : FnScope ["self", "off", "least"] ["self", "off", "least"] (defScope sCardI) := ⟨rfl, rfl, rfl, by decide +kernel, rfl, by decide +kernel, by decide +kernel⟩
theorem ok_cardI {f C fI : Addr} {fd : FuncData} (F : Fun K "__init__" "Card.__init__" sCardI f fd) (T : TC K mg "Card" C fI nCard) : FnOk P w K mg base CX0 1 f fd ["self", "off", "least"] (spI C 2 fCard) := by
  refine F.ok scCard (fun vs H Q E h => ?_) (fun cdv A outer s H vs Q E hr h => ?_)
  · obtain ⟨p, dx, us, fs, rfl, e, _⟩ := h
    rw [List.length_cons, e]; rfl
  · obtain ⟨p, dx, us, fs, rfl, _, hp, ⟨l, rfl, rfl⟩, k⟩ := h
    refine ⟨_, pss_cons (ps_fld (pv 0) (pv 1) rfl) (pss_one (ps_fld (pv 0) (pv 2) rfl)), ?_⟩
    refine ⟨_, rfl, _, rfl, p, C, dx, _, rfl, hp, T.cl, T.f 0, (by show 0 < 1000; decide), ?_⟩
    refine ⟨_, rfl, _, rfl, p, C, dx, _, rfl, upd_same, T.cl, T.f 1, (by show 1 < 1000; decide), ?_⟩
    rw [upd_upd]
    exact k
/-! ### is_leg -/
structure TG1 (mg : Str → Option Value) : Prop where
  last : GI mg "LAST_STOP" 254
  any : GI mg "ANY_STOP" 255
  legs : GI mg "MOST_LEGS" 16
  day : GI mg "DAY" 1440
  late : GI mg "MINUTES_END" 16777216
  wait : GI mg "LONGEST_WAIT" 60
structure TB (mg : Str → Option Value) : Prop where
  len : mg "len" = none
  range : mg "range" = none
  enum : mg "enumerate" = none
  sorted : mg "sorted" = none
  min : mg "min" = none
  max : mg "max" = none
  sum : mg "sum" = none
  any : mg "any" = none
def spIsLeg (C : Addr) : Sp := fun vs H Q _ => ∃ (a : Addr) (l : Kct0.Leg), vs = [.ref a] ∧ LegAt C H a l ∧ Q (.bl (legOk l)) H
theorem scIsLeg : FnScope ["leg"] ["leg"] (defScope sIsLeg) := ⟨rfl, rfl, rfl, by decide +kernel, rfl, by decide +kernel, by decide +kernel⟩
theorem ok_isLeg {f C fI : Addr} {fd : FuncData} (F : Fun K "is_leg" "is_leg" sIsLeg f fd) (T : TC K mg "Leg" C fI nLeg) (G : TG1 mg) : FnOk P w K mg base CX0 1 f fd ["leg"] (spIsLeg C) := by
  refine F.ok scIsLeg (fun vs H Q E h => ?_) (fun cdv A outer s H vs Q E hr h => ?_)
  · obtain ⟨a, l, rfl, _⟩ := h
    rfl
  · obtain ⟨a, l, rfl, ⟨dx, hp⟩, k⟩ := h
    refine ⟨_, pss_one (ps_ret (pe_and (pe_cmpR op_le (pe_fld (pv 0) rfl) (pgi G.last) (nomark _)) (pe_and (pe_cmpR op_le (pe_fld (pv 0) rfl) (pgi G.last) (nomark _)) (pe_and (pe_cmpR op_le (pe_fld (pv 0) rfl) (pe_fld (pv 0) rfl) (nomark _)) (pe_one (pe_cmpR op_lt (pe_fld (pv 0) rfl) (pgi G.late) (nomark _))))))), ?_⟩
    refine pu_and (pu_0 (pu_fld pu_v hp T.cl (T.f 0) rfl) pu_c) (fun _ => pu_and (pu_0 (pu_fld pu_v hp T.cl (T.f 1) rfl) pu_c) (fun _ => pu_and (pu_0 (pu_fld pu_v hp T.cl (T.f 2) rfl) (pu_fld pu_v hp T.cl (T.f 3) rfl)) (fun _ => pu_0 (pu_fld pu_v hp T.cl (T.f 3) rfl) pu_c))) _ ?_
    have e : (decide ((l.from_ : Int) ≤ 254) && (decide ((l.to_ : Int) ≤ 254) && (decide ((l.dep : Int) ≤ l.arr) && decide ((l.arr : Int) < 16777216)))) = legOk l := by
      unfold legOk Kct0.STOPS Kct0.LATE
      rw [Bool.eq_iff_iff]
      simp only [Bool.and_eq_true, decide_eq_true_iff]
      omega
    rw [e]
    exact k
end
end LF
end

section
set_option Elab.async false
set_option linter.all false
set_option maxRecDepth 100000
namespace LF
open PySem PySem.Spec PyProof.Rows L2
/-! ### a def of the text, to be called -/
structure FnT (P : Program) (w : World) (K : PySem.W.Frag) (mg : Str → Option Value) (base : Heap) (k : Nat) (nm : Str) (ps : List Str) (sp : Sp) (f : Addr) (fd : FuncData) : Prop where
  ok : FnOk P w K mg base CX0 k f fd ps sp
  mgf : mg nm = some (.ref f)
  kp : PySem.W.keepIn K (.ref f) = true
  b : Binds K fd ps []
theorem pcall {X : Cx} {k : Nat} {nm : Str} {ps : List Str} {sp : Sp} {f : Addr} {fd : FuncData} {e : Expr} {es : List Expr} {t : TA} {p pos : Pos} (T : FnT X.prog X.w X.K X.mg X.base k nm ps sp f fd) (hr : Room k X.A) (ha : PA X (e :: es) t) (hg : Gl X nm := by rfl)
    (hdb : (nm == ("__debug__" : Str)) = false := by decide) (he : starEach (e :: es) X.env = (false, eval e X.env) :: starEach es X.env := by rfl) (hpl : (backTo pos (starEach es X.env)).any (·.1) = false := by rfl) :
    PE X (.Call (.Name nm p) (e :: es) [] pos) (tCall sp [] E0 t) := pe_call T.ok hr hg T.mgf T.kp T.b .nil pass0 ha hdb he hpl
theorem pu_isLeg {C : Addr} {t : TA} {σ : St} {H : Hp} {a : Addr} {l : Kct0.Leg} {E : XK} (ha : Pa t σ H [.ref a]) (h : LegAt C H a l) : Pu (tCall (spIsLeg C) [] E t) σ H (.bl (legOk l)) := fun _ q => ha _ ⟨a, l, rfl, h, q⟩
section
variable {P : Program} {w : World} {K : PySem.W.Frag} {mg : Str → Option Value} {base : Heap}
/-! ### is_journey -/
def spIsJ (C : Addr) : Sp := fun vs H Q _ => ∃ (la : Addr) (ls : List Kct0.Leg), vs = [.ref la] ∧ LegsAt C H la ls ∧ ∀ H', Same H H' → Q (.bl (Kct0.isJourney ls)) H'
theorem scIsJ : FnScope ["legs", "k", "leg"] ["legs"] (defScope sIsJ) := ⟨rfl, rfl, rfl, by decide +kernel, rfl, by decide +kernel, by decide +kernel⟩
theorem ok_isJ {f C fI f1 : Addr} {fd fd1 : FuncData} (F : Fun K "is_journey" "is_journey" sIsJ f fd) (T : TC K mg "Leg" C fI nLeg) (G : TG1 mg) (B : TB mg) (L : FnT P w K mg base 1 "is_leg" ["leg"] (spIsLeg C) f1 fd1) :
    FnOk P w K mg base CX0 2 f fd ["legs"] (spIsJ C) := by
  refine F.ok scIsJ (fun vs H Q E h => ?_) (fun cdv A outer s H vs Q E hr h => ?_)
  · obtain ⟨la, ls, rfl, _⟩ := h
    rfl
  · obtain ⟨la, ls, rfl, ⟨as, hla, O⟩, k⟩ := h
    have hsq : ∀ {H' : Hp}, Same H H' → SqL K H' la (as.map V.ref) := fun s => SqL.of (s _ _ hla)
    have hlen : ((as.map V.ref).length : Int) = ls.length := by rw [List.length_map, O.len]
    refine ⟨_, pss_cons (ps_if (PW.pt (pw_or (pt_cmpR op_lt (pe_callB call_len_seq (by rfl) B.len PySem.boot_len (pa_cons (pv 0) pa_nil)) pe_int (nomark _)) (pw_or1 (pt_cmpR op_gt (pe_callB call_len_seq (by rfl) B.len PySem.boot_len (pa_cons (pv 0) pa_nil)) (pgi G.legs) (nomark _))))) (pss_one (ps_ret pe_bl)) pss_nil)
      (pss_cons (ps_for PassesOwn.never rfl (pi_enum rfl B.enum (pa_cons (pv 0) pa_nil)) (pg_tup rfl (pgs_cons (pg_name (i := 1) scIsJ.nd rfl (Or.inl rfl)) (pgs_cons (pg_name (i := 2) scIsJ.nd rfl (Or.inl rfl)) pgs_nil)))
        (pss_cons (ps_if (pt_not (ptru (pcall L hr (pa_cons (pv 2) pa_nil)))) (pss_one (ps_ret pe_bl)) pss_nil)
        (pss_one (ps_if (PW.pt (pw_and (pt_cmpR op_gt (pv 1) pe_int (nomark _)) (pw_and1 (PW.pt (pw_or (pt_cmpR op_ne (pe_fld (pv 2) rfl) (pe_fld (pe_ix ix_list (pv 0) (pe_op op_sub (pv 1) pe_int) (fun _ _ => rfl)) rfl) (nomark _))
            (pw_or1 (pt_cmpR op_lt (pe_fld (pv 2) rfl) (pe_fld (pe_ix ix_list (pv 0) (pe_op op_sub (pv 1) pe_int) (fun _ _ => rfl)) rfl) (nomark _)))))))) (pss_one (ps_ret pe_bl)) pss_nil))))
      (pss_one (ps_ret pe_bl))), ?_⟩
    refine if_s0 (pt_or' (pt_of (pu_0 (pu_len (pa_1 pu_v pa_0) (hsq (Same.refl H))) pu_c)) (fun _ => pt_of (pu_0 (pu_len (pa_1 pu_v pa_0) (hsq (Same.refl H))) pu_c))) (fun h => ?_) (fun h => ?_) <;> rw [hlen] at h
    · have e : Kct0.isJourney ls = false := by
        rw [Bool.eq_false_iff]
        intro q
        have := (isJourney_iff ls).mp q
        simp only [Bool.or_eq_true, decide_eq_true_iff] at h
        omega
      have k' := k H (Same.refl H)
      rw [e] at k'
      exact k'
    · have hl : 1 ≤ ls.length ∧ ls.length ≤ 16 := by
        simp only [Bool.or_eq_false_iff, decide_eq_false_iff_not] at h
        omega
      refine ⟨_, rfl, la, as.map V.ref, rfl, hsq (Same.refl H), for_enum (K := K) (a := la) (xs := as.map V.ref) (fun i σ H' => (∃ v1 v2, σ = [some (.ref la), v1, v2]) ∧ Same H H' ∧ (∀ (j : Nat) (x : Kct0.Leg), j < i → ls[j]? = some x → legOk x = true) ∧ (∀ (j : Nat) (a b : Kct0.Leg), j + 1 < i → ls[j]? = some a → ls[j + 1]? = some b → a.to_ = b.from_ ∧ a.arr ≤ b.dep))
        ⟨⟨none, none, rfl⟩, Same.refl H, fun j x h => absurd h (Nat.not_lt_zero _), fun j a b h => absurd h (Nat.not_lt_zero _)⟩ (fun i σ H' _ p => hsq p.2.1) ?_ ?_⟩
      · rintro i y σ H' TT hi ⟨⟨v1, v2, rfl⟩, s1, p1, p2⟩ hT
        obtain ⟨a, ha, rfl⟩ := ref_at hi
        obtain ⟨l, hl', dx, hp⟩ := O.get' ha
        have s2 : Same H (upd H' TT (.tup [.int (i : Nat), .ref a])) := s1.trans (same_new hT)
        refine ⟨TT, _, rfl, SqT.of upd_same, rfl, _, _, rfl, _, _, rfl, rfl, ?_⟩
        generalize upd H' TT (.tup [.int (i : Nat), .ref a]) = H2 at s2
        have hp2 := s2 _ _ hp
        refine if_s0 (pt_not' (pt_bl (pu_isLeg (pa_1 pu_v pa_0) ⟨dx, hp2⟩))) (fun h => ?_) (fun h => ?_)
        · have e : Kct0.isJourney ls = false := by
            rw [Bool.eq_false_iff]
            intro q
            have := ((isJourney_iff ls).mp q).2.1 i l hl'
            rw [this] at h
            cases h
          have k' := k H2 s2
          rw [e] at k'
          exact k'
        · have hok : legOk l = true := by
            cases e : legOk l with
            | true => rfl
            | false => rw [e] at h; cases h
          have p1' : ∀ (j : Nat) (x : Kct0.Leg), j < i + 1 → ls[j]? = some x → legOk x = true := fun j x hj hx => by
            by_cases e : j = i
            · subst e
              rw [hl'] at hx
              cases hx
              exact hok
            · exact p1 j x (by omega) hx
          by_cases h0 : i = 0
          · subst h0
            refine if_10 (pt_and' (d := false) (pt_of (pu_0 pu_v pu_c)) (fun z => ?_)) (fun z => ?_) (fun _ => ?_)
            · have z' : decide ((0 : Int) < ((0 : Nat) : Int)) = true := z
              exact absurd z' (by decide)
            · rw [Bool.and_false] at z
              cases z
            · exact ⟨⟨_, _, rfl⟩, s2, p1', fun j a b hj => absurd hj (by omega)⟩
          · obtain ⟨m, rfl⟩ : ∃ m, i = m + 1 := ⟨i - 1, by omega⟩
            have hlm : m < ls.length := by
              have := (List.getElem?_eq_some_iff.mp hl').1
              omega
            obtain ⟨lp, hlp⟩ : ∃ lp, ls[m]? = some lp := ⟨_, List.getElem?_eq_getElem hlm⟩
            obtain ⟨ap, hap, dp, hpp⟩ := O.get hlp
            have hpp2 := s2 _ _ hpp
            have hat : atI (as.map V.ref) (((m + 1 : Nat) : Int) - 1) = some (.ref ap) := at_of (j := m) (by omega) (at_ref hap)
            refine if_10 (pt_and' (pt_of (pu_0 pu_v pu_c)) (fun _ => pt_or' (pt_of (pu_ne (pu_fld pu_v hp2 T.cl (T.f 0) rfl) (pu_fld (pu_ixL pu_v (pu_0 pu_v pu_c) (hsq s2) hat) hpp2 T.cl (T.f 1) rfl))) (fun _ => pt_of (pu_0 (pu_fld pu_v hp2 T.cl (T.f 2) rfl) (pu_fld (pu_ixL pu_v (pu_0 pu_v pu_c) (hsq s2) hat) hpp2 T.cl (T.f 3) rfl))))) (fun h => ?_) (fun h => ?_)
            · have e : Kct0.isJourney ls = false := by
                rw [Bool.eq_false_iff]
                intro q
                have q2 := ((isJourney_iff ls).mp q).2.2 m lp l hlp hl'
                simp only [Bool.and_eq_true, Bool.or_eq_true, decide_eq_true_iff, Bool.not_eq_true', decide_eq_false_iff_not, V.int.injEq] at h
                omega
              have k' := k H2 s2
              rw [e] at k'
              exact k'
            · refine ⟨⟨_, _, rfl⟩, s2, p1', fun j a' b' hj ha' hb' => ?_⟩
              by_cases e : j = m
              · subst e
                rw [hlp] at ha'
                rw [hl'] at hb'
                cases ha'
                cases hb'
                simp only [Bool.and_eq_false_iff, Bool.or_eq_false_iff, decide_eq_false_iff_not, Bool.not_eq_false', decide_eq_true_iff, V.int.injEq] at h
                omega
              · exact p2 j a' b' (by omega) ha' hb'
      · rintro σ H' ⟨⟨v1, v2, rfl⟩, s1, p1, p2⟩
        rw [List.length_map, O.len] at p1 p2
        have e : Kct0.isJourney ls = true := (isJourney_iff ls).mpr ⟨hl, fun j x hx => p1 j x (List.getElem?_eq_some_iff.mp hx).1 hx, fun j a b ha hb => p2 j a b (List.getElem?_eq_some_iff.mp hb).1 ha hb⟩
        have k' := k H' s1
        rw [e] at k'
        exact k'
end
end LF
end

section
set_option Elab.async false
set_option linter.all false
set_option maxRecDepth 100000
namespace LF
open PySem PySem.Spec PyProof.Rows L2
section
variable {P : Program} {w : World} {K : PySem.W.Frag} {mg : Str → Option Value} {base : Heap}
/-! ### Fare, Ticket -/
/-- a fare of eight numbers -/
def fareOf (a z v p i j n b : Nat) : Kct0.Fare := ⟨a, z, v, p, i, j, n, b, true⟩
def spFareI (C : Addr) (K : PySem.W.Frag) : Sp := fun vs H Q _ => ∃ (p dx la : Addr) (a z v pr i j n b : Nat), vs = [.ref p, .ref la] ∧ H p = some (.ins C dx []) ∧ p ≠ la ∧ SqL K H la (nats [a, z, v, pr, i, j, n, b]) ∧ Q .non (upd H p (.ins C dx (fareF (fareOf a z v pr i j n b))))
theorem scFare : FnScope ["self", "told"] ["self", "told"] (defScope sFareI) := ⟨rfl, rfl, rfl, by decide +kernel, rfl, by decide +kernel, by decide +kernel⟩
theorem sqL_upd {H : Hp} {a p : Addr} {xs : List V} {o : HO} (ne : p ≠ a) (h : SqL K H a xs) : SqL K (upd H p o) a xs := by
  rcases h with (h | ⟨o', h⟩) | h
  · exact .inl (.inl (by rw [upd_ne (Ne.symm ne)]; exact h))
  · exact .inl (.inr ⟨o', by rw [upd_ne (Ne.symm ne)]; exact h⟩)
  · exact .inr h
theorem fld_s {ta tv : TE} {f : Str} {r : TS} {D : Ends} {σ : St} {H : Hp} {a C dx : Addr} {fs : List (Str × V)} {y : V} (hv : Pu tv σ H y) (ha : Pu ta σ H (.ref a)) (hp : H a = some (.ins C dx fs)) (cl : Cls K C) (n : NoAttr K C f) (hl : fs.length < 1000)
    (h : r D σ (upd H a (.ins C dx (putF f y fs)))) : tSeq (sFld K ta tv f) r D σ H := hv _ (ha _ ⟨a, C, dx, fs, rfl, hp, cl, n, hl, h⟩)
theorem fld_1 {ta tv : TE} {f : Str} {D : Ends} {σ : St} {H : Hp} {a C dx : Addr} {fs : List (Str × V)} {y : V} (hv : Pu tv σ H y) (ha : Pu ta σ H (.ref a)) (hp : H a = some (.ins C dx fs)) (cl : Cls K C) (n : NoAttr K C f) (hl : fs.length < 1000)
    (h : D.nx σ (upd H a (.ins C dx (putF f y fs)))) : sFld K ta tv f D σ H := hv _ (ha _ ⟨a, C, dx, fs, rfl, hp, cl, n, hl, h⟩)
theorem aug_1 {ta tv : TE} {rd : V → V → Hp → VK → Prop} {f : Str} {D : Ends} {σ : St} {H : Hp} {a C dx : Addr} {fs : List (Str × V)} {v y z : V} (ha : Pu ta σ H (.ref a)) (hp : H a = some (.ins C dx fs)) (cl : Cls K C) (n : NoAttr K C f) (l : fs.lookup f = some v)
    (hv : Pu tv σ H y) (hr : ∀ Q : VK, Q z H → rd v y H Q) (hl : fs.length < 1000) (h : D.nx σ (upd H a (.ins C dx (putF f z fs)))) : sFldAug K ta tv rd f D σ H := ha _ ⟨a, C, dx, fs, v, rfl, hp, cl, n, l, hv _ (hr _ ⟨dx, fs, hp, hl, h⟩)⟩
theorem ok_fareI {f C fI : Addr} {fd : FuncData} (F : Fun K "__init__" "Fare.__init__" sFareI f fd) (T : TC K mg "Fare" C fI nFare) : FnOk P w K mg base CX0 1 f fd ["self", "told"] (spFareI C K) := by
  refine F.ok scFare (fun vs H Q E h => ?_) (fun cdv A outer s H vs Q E hr h => ?_)
  · obtain ⟨p, dx, la, _, _, _, _, _, _, _, _, rfl, _⟩ := h
    rfl
  · obtain ⟨p, dx, la, a, z, v, pr, i, j, n, b, rfl, hp, ne, hs, k⟩ := h
    refine ⟨_, pss_cons (ps_fld (pv 0) (pe_ix ix_list (pv 1) pe_int (fun _ _ => rfl)) rfl) (pss_cons (ps_fld (pv 0) (pe_ix ix_list (pv 1) pe_int (fun _ _ => rfl)) rfl) (pss_cons (ps_fld (pv 0) (pe_ix ix_list (pv 1) pe_int (fun _ _ => rfl)) rfl) (pss_cons (ps_fld (pv 0) (pe_ix ix_list (pv 1) pe_int (fun _ _ => rfl)) rfl)
      (pss_cons (ps_fld (pv 0) (pe_ix ix_list (pv 1) pe_int (fun _ _ => rfl)) rfl) (pss_cons (ps_fld (pv 0) (pe_ix ix_list (pv 1) pe_int (fun _ _ => rfl)) rfl) (pss_cons (ps_fld (pv 0) (pe_ix ix_list (pv 1) pe_int (fun _ _ => rfl)) rfl) (pss_cons (ps_fld (pv 0) (pe_ix ix_list (pv 1) pe_int (fun _ _ => rfl)) rfl)
      (pss_one (ps_fld (pv 0) pe_bl rfl))))))))), ?_⟩
    refine fld_s (pu_ixL pu_v pu_c hs rfl) pu_v hp T.cl (T.f 0) (by show 0 < 1000; decide) ?_
    refine fld_s (pu_ixL pu_v pu_c (sqL_upd ne hs) rfl) pu_v upd_same T.cl (T.f 1) (by show 1 < 1000; decide) ?_
    rw [upd_upd]
    refine fld_s (pu_ixL pu_v pu_c (sqL_upd ne hs) rfl) pu_v upd_same T.cl (T.f 2) (by show 2 < 1000; decide) ?_
    rw [upd_upd]
    refine fld_s (pu_ixL pu_v pu_c (sqL_upd ne hs) rfl) pu_v upd_same T.cl (T.f 3) (by show 3 < 1000; decide) ?_
    rw [upd_upd]
    refine fld_s (pu_ixL pu_v pu_c (sqL_upd ne hs) rfl) pu_v upd_same T.cl (T.f 4) (by show 4 < 1000; decide) ?_
    rw [upd_upd]
    refine fld_s (pu_ixL pu_v pu_c (sqL_upd ne hs) rfl) pu_v upd_same T.cl (T.f 5) (by show 5 < 1000; decide) ?_
    rw [upd_upd]
    refine fld_s (pu_ixL pu_v pu_c (sqL_upd ne hs) rfl) pu_v upd_same T.cl (T.f 6) (by show 6 < 1000; decide) ?_
    rw [upd_upd]
    refine fld_s (pu_ixL pu_v pu_c (sqL_upd ne hs) rfl) pu_v upd_same T.cl (T.f 7) (by show 7 < 1000; decide) ?_
    rw [upd_upd]
    refine fld_1 pu_c pu_v upd_same T.cl (T.f 8) (by show 8 < 1000; decide) ?_
    rw [upd_upd]
    exact k
/-! ### covers -/
def spCov (C C2 : Addr) : Sp := fun vs H Q _ => ∃ (a b : Addr) (f : Kct0.Fare) (s : Stt), vs = [.ref a, .ref b] ∧ FareAt C H a f ∧ StrAt C2 H b s ∧ Q (.bl (cov f s)) H
theorem scCov : FnScope ["fare", "stretch"] ["fare", "stretch"] (defScope sCov) := ⟨rfl, rfl, rfl, by decide +kernel, rfl, by decide +kernel, by decide +kernel⟩
theorem flat_nats : ∀ l : List Nat, (nats l).all flatV = true
  | [] => rfl
  | a :: l => by
    show (true && (nats l).all flatV) = true
    rw [flat_nats l]
    rfl
theorem in_nats (n : Nat) : ∀ l : List Nat, inV (.int (n : Int)) (nats l) = l.any fun x => x == n
  | [] => rfl
  | a :: l => by
    show ((((a : Int) == (n : Int))) || inV (.int (n : Int)) (nats l)) = ((a == n) || l.any fun x => x == n)
    rw [in_nats n l]
    congr 1
    rw [Bool.eq_iff_iff, beq_iff_eq, beq_iff_eq]
    omega
theorem pu_in {ta tb : TE} {σ : St} {H : Hp} {x : V} {p : Addr} {xs : List V} (ha : Pu ta σ H x) (hb : Pu tb σ H (.ref p)) (hs : SqL K H p xs) (hx : flatV x = true) (hf : xs.all flatV = true) : Pu (tOp (rIn K false) ta tb) σ H (.bl (inV x xs)) := fun _ q => ha _ (hb _ ⟨p, xs, rfl, .inl hs, hx, hf, q⟩)
theorem dec_nat {a b : Nat} : decide (V.int (a : Int) = V.int (b : Int)) = (a == b) := by
  rw [dec_int, Bool.eq_iff_iff, beq_iff_eq, beq_iff_eq]
  omega
theorem ok_cov {f C fI C2 fI2 : Addr} {fd : FuncData} (F : Fun K "covers" "covers" sCov f fd) (T : TC K mg "Fare" C fI nFare) (T2 : TC K mg "Stretch" C2 fI2 nStr) (G : TG1 mg) : FnOk P w K mg base CX0 1 f fd ["fare", "stretch"] (spCov C C2) := by
  refine F.ok scCov (fun vs H Q E h => ?_) (fun cdv A outer s H vs Q E hr h => ?_)
  · obtain ⟨a, b, f, s, rfl, _⟩ := h
    rfl
  · obtain ⟨a, b, fr, st, rfl, ⟨dx, hp⟩, ⟨d2, pl, hq, hpl⟩, k⟩ := h
    refine ⟨_, pss_one (ps_ret (pe_and (pe_cmpR op_eq (pe_fld (pv 0) rfl) (pe_fld (pv 1) rfl) (nomark _)) (pe_and (pe_cmpR op_eq (pe_fld (pv 0) rfl) (pe_fld (pv 1) rfl) (nomark _)) (pe_and (pe_cmpR op_le (pe_fld (pv 0) rfl) (pe_fld (pv 1) rfl) (nomark _)) (pe_and (pe_cmpR op_le (pe_fld (pv 1) rfl) (pe_fld (pv 0) rfl) (nomark _))
      (pe_and (pe_cmpR op_le (pe_op op_sub (pe_fld (pv 1) rfl) (pe_fld (pv 1) rfl)) (pe_fld (pv 0) rfl) (nomark _)) (pe_and (pe_cmpR op_le (pe_fld (pv 1) rfl) (pe_fld (pv 0) rfl) (nomark _))
      (pe_one (pe_or (pe_cmpR op_eq (pe_fld (pv 0) rfl) (pgi G.any) (nomark _)) (pe_one (pe_cmpR op_in_seq (pe_fld (pv 0) rfl) (pe_fld (pv 1) rfl) (by with_unfolding_all rfl)))))))))))), ?_⟩
    refine ret_1 (pu_and (pu_eq (pu_fld pu_v hp T.cl (T.f 0) rfl) (pu_fld pu_v hq T2.cl (T2.f 0) rfl)) fun _ => pu_and (pu_eq (pu_fld pu_v hp T.cl (T.f 1) rfl) (pu_fld pu_v hq T2.cl (T2.f 1) rfl)) fun _ => pu_and (pu_0 (pu_fld pu_v hp T.cl (T.f 4) rfl) (pu_fld pu_v hq T2.cl (T2.f 4) rfl)) fun _ =>
      pu_and (pu_0 (pu_fld pu_v hq T2.cl (T2.f 5) rfl) (pu_fld pu_v hp T.cl (T.f 5) rfl)) fun _ => pu_and (pu_0 (pu_0 (pu_fld pu_v hq T2.cl (T2.f 3) rfl) (pu_fld pu_v hq T2.cl (T2.f 2) rfl)) (pu_fld pu_v hp T.cl (T.f 6) rfl)) fun _ => pu_and (pu_0 (pu_fld pu_v hq T2.cl (T2.f 6) rfl) (pu_fld pu_v hp T.cl (T.f 7) rfl)) fun _ =>
      pu_or (pu_eq (pu_fld pu_v hp T.cl (T.f 2) rfl) pu_c) fun _ => pu_in (pu_fld pu_v hp T.cl (T.f 2) rfl) (pu_fld pu_v hq T2.cl (T2.f 7) rfl) (SqL.of hpl) rfl (flat_nats _)) ?_
    have e : (decide (V.int (fr.from_ : Int) = V.int (st.src : Int)) && (decide (V.int (fr.to_ : Int) = V.int (st.to : Int)) && (decide ((fr.first : Int) ≤ st.early) && (decide ((st.late : Int) ≤ fr.last) && (decide ((st.arr : Int) - st.dep ≤ fr.long) && (decide ((st.breaks : Int) ≤ fr.breaks) &&
        (decide (V.int (fr.via : Int) = V.int 255) || inV (.int (fr.via : Int)) (nats st.passed)))))))) = cov fr st := by
      unfold cov
      rw [dec_nat, dec_nat, in_nats]
      have e1 : decide (V.int (fr.via : Int) = V.int 255) = (fr.via == Kct0.ANY) := dec_nat (b := 255)
      have e2 : decide ((fr.first : Int) ≤ st.early) = decide (fr.first ≤ st.early) := by rw [Bool.eq_iff_iff, decide_eq_true_iff, decide_eq_true_iff]; omega
      have e3 : decide ((st.late : Int) ≤ fr.last) = decide (st.late ≤ fr.last) := by rw [Bool.eq_iff_iff, decide_eq_true_iff, decide_eq_true_iff]; omega
      have e4 : decide ((st.arr : Int) - st.dep ≤ fr.long) = decide (st.arr ≤ st.dep + fr.long) := by rw [Bool.eq_iff_iff, decide_eq_true_iff, decide_eq_true_iff]; omega
      have e5 : decide ((st.breaks : Int) ≤ fr.breaks) = decide (st.breaks ≤ fr.breaks) := by rw [Bool.eq_iff_iff, decide_eq_true_iff, decide_eq_true_iff]; omega
      rw [e1, e2, e3, e4, e5]
    rw [e]
    exact k
theorem pu_cov {C C2 : Addr} {t : TA} {σ : St} {H : Hp} {a b : Addr} {f : Kct0.Fare} {s : Stt} {E : XK} (ha : Pa t σ H [.ref a, .ref b]) (h : FareAt C H a f) (h2 : StrAt C2 H b s) : Pu (tCall (spCov C C2) [] E t) σ H (.bl (cov f s)) := fun _ q => ha _ ⟨a, b, f, s, rfl, h, h2, q⟩
/-! ### ticket_cost -/
def spCost (C : Addr) : Sp := fun vs H Q _ => ∃ (p : Nat) (a : Addr) (c : Kct0.Card) (f : Kct0.Fare), vs = [.int (f.price : Int), .ref a] ∧ CardAt C H a c ∧ c.off ≤ 100 ∧ f.price ≤ 1000000 ∧ Q (.int (Kct0.costs c f : Nat)) H
theorem scCost : FnScope ["price", "card", "reduced"] ["price", "card"] (defScope sCost) := ⟨rfl, rfl, rfl, by decide +kernel, rfl, by decide +kernel, by decide +kernel⟩
theorem ok_cost {f C fI : Addr} {fd : FuncData} (F : Fun K "ticket_cost" "ticket_cost" sCost f fd) (T : TC K mg "Card" C fI nCard) (B : TB mg) : FnOk P w K mg base CX0 1 f fd ["price", "card"] (spCost C) := by
  refine F.ok scCost (fun vs H Q E h => ?_) (fun cdv A outer s H vs Q E hr h => ?_)
  · obtain ⟨p, a, c, f, rfl, _⟩ := h
    rfl
  · obtain ⟨_, a, c, fr, rfl, ⟨dx, hp⟩, ho, hpr, k⟩ := h
    refine ⟨_, pss_cons (ps_set (i := 2) scCost.nd rfl (Or.inl rfl) (pe_op op_fdiv (pe_op op_mul (pv 0) (pe_op op_sub pe_int (pe_fld (pv 1) rfl))) pe_int))
      (pss_one (ps_ret (pe_callB (call_min2 rfl) (by rfl) B.min PyProof.Rows.boot_min (pa_cons (pv 0) (pa_cons (pe_callB (call_max2 rfl) (by rfl) B.max PyProof.Rows.boot_max (pa_cons (pv 2) (pa_cons (pe_fld (pv 1) rfl) pa_nil))) pa_nil))))), ?_⟩
    refine set_s (pu_C (pu_C pu_v (pu_0 pu_c (pu_fld pu_v hp T.cl (T.f 0) rfl)) (.inl ⟨by omega, by omega⟩)) pu_c ⟨by decide, by decide⟩) ?_
    refine ret_1 (pu_min (pa_1 pu_v (pa_1 (pu_max (pa_1 pu_v (pa_1 (pu_fld pu_v hp T.cl (T.f 1) rfl) pa_0))) pa_0))) ?_
    have e : min (fr.price : Int) (max ((fr.price : Int) * (100 - (c.off : Int)) / 100) (c.least : Int)) = (Kct0.costs c fr : Nat) := by
      have e0 : (100 : Int) - (c.off : Int) = ((100 - c.off : Nat) : Int) := by omega
      have e1 : (fr.price : Int) * (100 - (c.off : Int)) / 100 = ((fr.price * (100 - c.off) / 100 : Nat) : Int) := by
        rw [e0, ← Int.natCast_mul]
        rfl
      rw [e1]
      unfold Kct0.costs
      generalize fr.price * (100 - c.off) / 100 = q
      dsimp only
      rw [Int.min_def, Int.max_def]
      by_cases h1 : q < c.least
      · rw [if_pos h1, if_pos (show (q : Int) ≤ c.least by omega)]
        by_cases h2 : fr.price < c.least
        · rw [if_pos h2, if_pos (show (fr.price : Int) ≤ c.least by omega)]
        · rw [if_neg h2]
          split <;> omega
      · rw [if_neg h1]
        have e3 : (if (q : Int) ≤ (c.least : Int) then (c.least : Int) else (q : Int)) = q := by split <;> omega
        rw [e3]
        by_cases h2 : fr.price < q
        · rw [if_pos h2, if_pos (show (fr.price : Int) ≤ q by omega)]
        · rw [if_neg h2]
          split <;> omega
    rw [e]
    exact k
end
end LF
end

section
set_option Elab.async false
set_option linter.all false
set_option maxRecDepth 100000
namespace LF
open PySem PySem.Spec PyProof.Rows L2
theorem pmake {X : Cx} {k : Nat} {nm : Str} {C fI : Addr} {fs ps : List Str} {sp : Sp} {fd : FuncData} {e : Expr} {es : List Expr} {t : TA} {p pos : Pos} (T : TC X.K X.mg nm C fI fs) (M : FnOk X.prog X.w X.K X.mg X.base CX0 k fI fd ps sp) (b : Binds X.K fd ps []) (hr : Room (k + 1) X.A) (ha : PA X (e :: es) t) (hg : Gl X nm := by rfl)
    (hdb : (nm == ("__debug__" : Str)) = false := by decide) (he : starEach (e :: es) X.env = (false, eval e X.env) :: starEach es X.env := by rfl) (hpl : (backTo pos (starEach es X.env)).any (·.1) = false := by rfl) :
    PE X (.Call (.Name nm p) (e :: es) [] pos) (tMake C sp [] E0 t) := pe_make T.mki M hr hg T.mgC b .nil pass0 ha hdb he hpl
section
variable {P : Program} {w : World} {K : PySem.W.Frag} {mg : Str → Option Value} {base : Heap}
/-! ### Stretch -/
def StrP (C : Addr) (H : Hp) (a pl : Addr) (s : Stt) : Prop := ∃ dx, H a = some (.ins C dx (strF s pl)) ∧ H pl = some (.lst (nats s.passed))
theorem StrP.at {C : Addr} {H : Hp} {a pl : Addr} {s : Stt} (h : StrP C H a pl s) : StrAt C H a s := let ⟨dx, h1, h2⟩ := h; ⟨dx, pl, h1, h2⟩
def spStrI (C C2 : Addr) : Sp := fun vs H Q _ => ∃ (p dx a : Addr) (l : Kct0.Leg), vs = [.ref p, .ref a] ∧ H p = some (.ins C dx []) ∧ p ≠ a ∧ LegAt C2 H a l ∧
  ∀ H' pl, H pl = none → StrP C H' p pl (st1 l) → (∀ b o, H b = some o → b ≠ p → H' b = some o) → Q .non H'
theorem scStr : FnScope ["self", "leg"] ["self", "leg"] (defScope sStrI) := ⟨rfl, rfl, rfl, by decide +kernel, rfl, by decide +kernel, by decide +kernel⟩
theorem ok_strI {f C fI C2 fI2 : Addr} {fd : FuncData} (F : Fun K "__init__" "Stretch.__init__" sStrI f fd) (T : TC K mg "Stretch" C fI nStr) (T2 : TC K mg "Leg" C2 fI2 nLeg) (G : TG1 mg) : FnOk P w K mg base CX0 1 f fd ["self", "leg"] (spStrI C C2) := by
  refine F.ok scStr (fun vs H Q E h => ?_) (fun cdv A outer s H vs Q E hr h => ?_)
  · obtain ⟨p, dx, a, l, rfl, _⟩ := h
    rfl
  · obtain ⟨p, dx, a, l, rfl, hp, ne, ⟨d2, ha⟩, k⟩ := h
    refine ⟨_, pss_cons (ps_fld (pv 0) (pe_fld (pv 1) rfl) rfl) (pss_cons (ps_fld (pv 0) (pe_fld (pv 1) rfl) rfl) (pss_cons (ps_fld (pv 0) (pe_fld (pv 1) rfl) rfl) (pss_cons (ps_fld (pv 0) (pe_fld (pv 1) rfl) rfl)
      (pss_cons (ps_fld (pv 0) (pe_op op_mod (pe_fld (pv 1) rfl) (pgi G.day)) rfl) (pss_cons (ps_fld (pv 0) (pe_op op_mod (pe_fld (pv 1) rfl) (pgi G.day)) rfl) (pss_cons (ps_fld (pv 0) pe_int rfl) (pss_one (ps_fld (pv 0) (pe_lst pa_nil) rfl)))))))), ?_⟩
    have hk : ∀ o, upd H p o a = some (.ins C2 d2 (legF l)) := fun o => by rw [upd_ne (Ne.symm ne)]; exact ha
    refine fld_s (pu_fld pu_v ha T2.cl (T2.f 0) rfl) pu_v hp T.cl (T.f 0) (by show 0 < 1000; decide) ?_
    refine fld_s (pu_fld pu_v (hk _) T2.cl (T2.f 1) rfl) pu_v upd_same T.cl (T.f 1) (by show 1 < 1000; decide) ?_
    rw [upd_upd]
    refine fld_s (pu_fld pu_v (hk _) T2.cl (T2.f 2) rfl) pu_v upd_same T.cl (T.f 2) (by show 2 < 1000; decide) ?_
    rw [upd_upd]
    refine fld_s (pu_fld pu_v (hk _) T2.cl (T2.f 3) rfl) pu_v upd_same T.cl (T.f 3) (by show 3 < 1000; decide) ?_
    rw [upd_upd]
    refine fld_s (pu_C (pu_fld pu_v (hk _) T2.cl (T2.f 2) rfl) pu_c (by decide)) pu_v upd_same T.cl (T.f 4) (by show 4 < 1000; decide) ?_
    rw [upd_upd]
    refine fld_s (pu_C (pu_fld pu_v (hk _) T2.cl (T2.f 2) rfl) pu_c (by decide)) pu_v upd_same T.cl (T.f 5) (by show 5 < 1000; decide) ?_
    rw [upd_upd]
    refine fld_s pu_c pu_v upd_same T.cl (T.f 6) (by show 6 < 1000; decide) ?_
    rw [upd_upd]
    refine ⟨Nat.zero_le _, fun pl hpl => ?_⟩
    have npl : p ≠ pl := fun q => by rw [← q, upd_same] at hpl; cases hpl
    have hpl0 : H pl = none := by rw [upd_ne (Ne.symm npl)] at hpl; exact hpl
    refine ⟨_, rfl, p, C, dx, _, rfl, (by rw [upd_ne npl]; exact upd_same), T.cl, T.f 7, (by show 7 < 1000; decide), ?_⟩
    refine k _ pl hpl0 ⟨dx, upd_same, ?_⟩ fun b o e hb => ?_
    · rw [upd_ne (Ne.symm npl)]
      exact upd_same
    · rw [upd_ne hb, upd_ne (ne_of_none e hpl0), upd_ne hb]
      exact e
def spGrow (C C2 : Addr) : Sp := fun vs H Q _ => ∃ (a pl b : Addr) (s : Stt) (l : Kct0.Leg), vs = [.ref a, .ref b] ∧ StrP C H a pl s ∧ LegAt C2 H b l ∧ a ≠ b ∧ s.passed.length ≤ 1000 ∧
  ∀ H', StrP C H' a pl (grow s l) → (∀ c o, H c = some o → c ≠ a → c ≠ pl → H' c = some o) → Q .non H'
theorem scGrow : FnScope ["self", "leg"] ["self", "leg"] (defScope sGrow) := ⟨rfl, rfl, rfl, by decide +kernel, rfl, by decide +kernel, by decide +kernel⟩
theorem ok_grow {f C fI C2 fI2 : Addr} {fd : FuncData} (F : Fun K "grow" "Stretch.grow" sGrow f fd) (T : TC K mg "Stretch" C fI nStr) (T2 : TC K mg "Leg" C2 fI2 nLeg) (G : TG1 mg) (B : TB mg) : FnOk P w K mg base CX0 1 f fd ["self", "leg"] (spGrow C C2) := by
  refine F.ok scGrow (fun vs H Q E h => ?_) (fun cdv A outer s H vs Q E hr h => ?_)
  · obtain ⟨a, pl, b, s, l, rfl, _⟩ := h
    rfl
  · obtain ⟨a, pl, b, st, l, rfl, ⟨dx, hp, hpl⟩, ⟨d2, hb⟩, ne, hlen, k⟩ := h
    have npl : pl ≠ a := ne_of hpl hp (by intro z; cases z)
    have nbl : b ≠ pl := ne_of hb hpl (by intro z; cases z)
    refine ⟨_, pss_cons (ps_if (pt_cmpR op_gt (pe_op op_sub (pe_fld (pv 1) rfl) (pe_fld (pv 0) rfl)) (pgi G.wait) (nomark _)) (pss_one (ps_fldaug (pv 0) pe_int in_add)) pss_nil)
      (pss_cons (ps_expr (pe_bm PySem.F.plainAttrs_list PySem.F.slot_list_append PySem.F.type_list_append mt_append (pe_fld (pv 0) rfl) (pa_cons (pe_fld (pv 0) rfl) pa_nil)))
      (pss_cons (ps_fld (pv 0) (pe_fld (pv 1) rfl) rfl) (pss_cons (ps_fld (pv 0) (pe_fld (pv 1) rfl) rfl)
      (pss_cons (ps_fld (pv 0) (pe_callB (call_min2 rfl) (by rfl) B.min PyProof.Rows.boot_min (pa_cons (pe_fld (pv 0) rfl) (pa_cons (pe_op op_mod (pe_fld (pv 1) rfl) (pgi G.day)) pa_nil))) rfl)
      (pss_one (ps_fld (pv 0) (pe_callB (call_max2 rfl) (by rfl) B.max PyProof.Rows.boot_max (pa_cons (pe_fld (pv 0) rfl) (pa_cons (pe_op op_mod (pe_fld (pv 1) rfl) (pgi G.day)) pa_nil))) rfl)))))), ?_⟩
    refine if_sj (fun H1 => H1 a = some (.ins C dx (strF { st with breaks := if st.arr + Kct0.PAUSE < l.dep then st.breaks + 1 else st.breaks } pl)) ∧ ∀ c o, H c = some o → c ≠ a → H1 c = some o)
      (pt_of (pu_0 (pu_0 (pu_fld pu_v hb T2.cl (T2.f 2) rfl) (pu_fld pu_v hp T.cl (T.f 3) rfl)) pu_c)) (fun h N hN => ?_) (fun h => ?_) ?_
    · have h' : st.arr + Kct0.PAUSE < l.dep := by
        have := of_decide_eq_true (show decide ((60 : Int) < (l.dep : Int) - (st.arr : Int)) = true from h)
        show st.arr + 60 < l.dep
        omega
      refine aug_1 (y := .int 1) (z := .int ((st.breaks : Int) + 1)) pu_v hp T.cl (T.f 6) rfl pu_c (fun Q q => ⟨_, _, rfl, rfl, q⟩) (by show 8 < 1000; decide) (hN _ ⟨?_, fun c o e hc => by rw [upd_ne hc]; exact e⟩)
      rw [if_pos h']
      exact upd_same
    · have h' : ¬ st.arr + Kct0.PAUSE < l.dep := by
        have := of_decide_eq_false (show decide ((60 : Int) < (l.dep : Int) - (st.arr : Int)) = false from h)
        show ¬ st.arr + 60 < l.dep
        omega
      rw [if_neg h']
      exact ⟨hp, fun c o e _ => e⟩
    · rintro H1 ⟨hp1, k1⟩
      have hpl1 := k1 _ _ hpl npl
      have hb1 := k1 _ _ hb (Ne.symm ne)
      refine app_s (pu_fld pu_v hp1 T.cl (T.f 7) rfl) (pu_fld pu_v hp1 T.cl (T.f 1) rfl) hpl1 (lt_line (by rw [nats, List.length_map]; omega)) ?_
      have hk : ∀ o, upd (upd H1 pl (.lst (nats st.passed ++ [.int (st.to : Int)]))) a o b = some (.ins C2 d2 (legF l)) := fun o => by rw [upd_ne (Ne.symm ne), upd_ne nbl]; exact hb1
      refine fld_s (pu_fld pu_v (by rw [upd_ne nbl]; exact hb1) T2.cl (T2.f 1) rfl) pu_v (by rw [upd_ne (Ne.symm npl)]; exact hp1) T.cl (T.f 1) (by show 8 < 1000; decide) ?_
      refine fld_s (pu_fld pu_v (hk _) T2.cl (T2.f 3) rfl) pu_v upd_same T.cl (T.f 3) (by show 8 < 1000; decide) ?_
      rw [upd_upd]
      refine fld_s (pu_min (pa_1 (pu_fld pu_v upd_same T.cl (T.f 4) rfl) (pa_1 (pu_C (pu_fld pu_v (hk _) T2.cl (T2.f 2) rfl) pu_c (by decide)) pa_0))) pu_v upd_same T.cl (T.f 4) (by show 8 < 1000; decide) ?_
      rw [upd_upd]
      refine fld_1 (pu_max (pa_1 (pu_fld pu_v upd_same T.cl (T.f 5) rfl) (pa_1 (pu_C (pu_fld pu_v (hk _) T2.cl (T2.f 2) rfl) pu_c (by decide)) pa_0))) pu_v upd_same T.cl (T.f 5) (by show 8 < 1000; decide) ?_
      rw [upd_upd]
      refine k _ ⟨dx, ?_, ?_⟩ fun c o e hc hc2 => ?_
      · have e1 : min (st.early : Int) ((l.dep : Int) % 1440) = ((min st.early (l.dep % Kct0.DAY) : Nat) : Int) := by
          show min (st.early : Int) ((l.dep : Int) % 1440) = ((min st.early (l.dep % 1440) : Nat) : Int)
          omega
        have e2 : max (st.late : Int) ((l.dep : Int) % 1440) = ((max st.late (l.dep % Kct0.DAY) : Nat) : Int) := by
          show max (st.late : Int) ((l.dep : Int) % 1440) = ((max st.late (l.dep % 1440) : Nat) : Int)
          omega
        rw [e1, e2]
        exact upd_same
      · rw [upd_ne npl, upd_same]
        show _ = some (HO.lst (nats (st.passed ++ [st.to])))
        rw [nats, nats, List.map_append]
        rfl
      · rw [upd_ne hc, upd_ne hc2]
        exact k1 _ _ e hc
end
end LF
end

section
set_option Elab.async false
set_option linter.all false
set_option maxRecDepth 100000
namespace LF
open PySem PySem.Spec PyProof.Rows L2
/-! ### legs_of -/
open Kct0Neutral (legsOf) in
theorem legsOf_len : ∀ (m : Nat) (ns : List Nat), ns.length = 4 * m → (legsOf ns).length = m
  | 0, ns, h => by
    have e : ns = [] := List.length_eq_zero_iff.mp (by omega)
    rw [e]; rfl
  | m + 1, ns, h => by
    match ns, h with
    | a :: b :: c :: d :: r, h =>
      show (legsOf r).length + 1 = m + 1
      rw [legsOf_len m r (by simp only [List.length_cons] at h; omega)]
    | [], h => simp only [List.length_nil] at h; omega
    | [_], h => simp only [List.length_cons, List.length_nil] at h; omega
    | [_, _], h => simp only [List.length_cons, List.length_nil] at h; omega
    | [_, _, _], h => simp only [List.length_cons, List.length_nil] at h; omega
open Kct0Neutral (legsOf) in
theorem legsOf_get : ∀ (m i : Nat) (ns : List Nat), ns.length = 4 * m → i < m → ∃ a b c d, ns[4 * i]? = some a ∧ ns[4 * i + 1]? = some b ∧ ns[4 * i + 2]? = some c ∧ ns[4 * i + 3]? = some d ∧ (legsOf ns)[i]? = some ⟨a, b, c, d⟩
  | 0, i, ns, h, hi => absurd hi (Nat.not_lt_zero _)
  | m + 1, i, ns, h, hi => by
    match ns, h with
    | a :: b :: c :: d :: r, h =>
      cases i with
      | zero => exact ⟨a, b, c, d, rfl, rfl, rfl, rfl, rfl⟩
      | succ i =>
        obtain ⟨a', b', c', d', h1, h2, h3, h4, h5⟩ := legsOf_get m i r (by simp only [List.length_cons] at h; omega) (by omega)
        refine ⟨a', b', c', d', ?_, ?_, ?_, ?_, ?_⟩
        · rw [show 4 * (i + 1) = 4 * i + 4 from by omega]; simpa using h1
        · rw [show 4 * (i + 1) + 1 = (4 * i + 1) + 4 from by omega]; simpa using h2
        · rw [show 4 * (i + 1) + 2 = (4 * i + 2) + 4 from by omega]; simpa using h3
        · rw [show 4 * (i + 1) + 3 = (4 * i + 3) + 4 from by omega]; simpa using h4
        · show (legsOf r)[i]? = _
          exact h5
    | [], h => simp only [List.length_nil] at h; omega
    | [_], h => simp only [List.length_cons, List.length_nil] at h; omega
    | [_, _], h => simp only [List.length_cons, List.length_nil] at h; omega
    | [_, _, _], h => simp only [List.length_cons, List.length_nil] at h; omega
theorem rgC4 {n m : Nat} (h : n = 4 * m) (hn : n ≤ 100000) : RgC 0 (n : Int) 4 m := by
  have hs : Builtin.Range.rangeSize 0 (n : Int) 4 = m := by
    unfold Builtin.Range.rangeSize
    rw [if_pos (by decide)]
    split <;> omega
  refine ⟨by decide, by decide, ?_, hs⟩
  have fit : ∀ z : Int, 0 ≤ z → z ≤ 1000000 → Builtin.Range.rangeFitsLong z = true := fun z h1 h2 => by
    unfold Builtin.Range.rangeFitsLong
    rw [Bool.and_eq_true, decide_eq_true_eq, decide_eq_true_eq]
    omega
  unfold Builtin.Range.small
  rw [hs, if_pos (show (4 : Int) > 0 by decide), fit 0 (by omega) (by omega), fit n (by omega) (by omega), fit 4 (by omega) (by omega), fit m (by omega) (by omega), fit ((n : Int) + (4 - 1)) (by omega) (by omega), Bool.or_true]
  rfl
theorem nats_at {ns : List Nat} {i : Nat} {a : Nat} (h : ns[i]? = some a) : (nats ns)[i]? = some (.int (a : Int)) := by rw [nats, List.getElem?_map, h]; rfl
theorem take_snoc {α : Type} : ∀ {l : List α} {i : Nat} {x : α}, l[i]? = some x → l.take (i + 1) = l.take i ++ [x]
  | [], i, x, h => by simp at h
  | a :: l, 0, x, h => by
    have e : a = x := Option.some.inj h
    subst e
    rfl
  | a :: l, i + 1, x, h => by
    have ih := take_snoc (l := l) (i := i) (x := x) h
    show a :: l.take (i + 1) = a :: l.take i ++ [x]
    rw [ih]
    rfl
theorem sqL_same {K : PySem.W.Frag} {H H' : Hp} {a : Addr} {xs : List V} (e : Same H H') (h : SqL K H a xs) : SqL K H' a xs := Same.seq e h
/-- a list that is written stands apart from what was there before -/
theorem same_upd {H H' : Hp} {a : Addr} {o : HO} (s : Same H H') (n : H a = none) : Same H (upd H' a o) := fun b u e => by
  rw [upd_ne (ne_of_none e n)]
  exact s b u e
section
variable {P : Program} {w : World} {K : PySem.W.Frag} {mg : Str → Option Value} {base : Heap}
def spLegsOf (C : Addr) (K : PySem.W.Frag) : Sp := fun vs H Q _ => ∃ (a : Addr) (ns : List Nat) (m : Nat), vs = [.ref a] ∧ SqL K H a (nats ns) ∧ ns.length = 4 * m ∧ ns.length ≤ 100000 ∧
  ∀ H' la, H la = none → Same H H' → LegsAt C H' la (Kct0Neutral.legsOf ns) → Q (.ref la) H'
theorem scLegsOf : FnScope ["row", "k"] ["row"] (defScope sLegsOf) := ⟨rfl, rfl, rfl, by decide +kernel, rfl, by decide +kernel, by decide +kernel⟩
theorem ok_legsOf {f C fI : Addr} {fd fdI : FuncData} (F : Fun K "legs_of" "legs_of" sLegsOf f fd) (T : TC K mg "Leg" C fI nLeg) (B : TB mg) (M : FnOk P w K mg base CX0 1 fI fdI ["self", "source", "to", "dep", "arr"] (spI C 4 fLeg)) (bI : Binds K fdI ["self", "source", "to", "dep", "arr"] []) :
    FnOk P w K mg base CX0 3 f fd ["row"] (spLegsOf C K) := by
  refine F.ok scLegsOf (fun vs H Q E h => ?_) (fun cdv A outer s H vs Q E hr h => ?_)
  · obtain ⟨a, ns, m, rfl, _⟩ := h
    rfl
  · obtain ⟨a, ns, m, rfl, hs, hm, hn, k⟩ := h
    refine ⟨_, pss_one (ps_ret (pe_lc (own := [("k", 1)]) rfl scLegsOf.nd (pi_range3 rfl B.range (pa_cons pe_int (pa_cons (pe_callB call_len_seq (by rfl) B.len PySem.boot_len (pa_cons (pv 0) pa_nil)) (pa_cons pe_int pa_nil)))) (blkOk_by (by rfl))
      (fun _ _ _ _ _ => pg_name (i := 1) scLegsOf.nd rfl (Or.inl rfl)) (fun _ _ _ _ _ => pts_nil)
      (fun _ _ _ _ _ => pmake T M bI hr (pa_cons (pe_ix ix_listK (pv 0) (pv 1) (fun _ _ => rfl)) (pa_cons (pe_ix ix_listK (pv 0) (pe_op op_add (pv 1) pe_int) (fun _ _ => rfl)) (pa_cons (pe_ix ix_listK (pv 0) (pe_op op_add (pv 1) pe_int) (fun _ _ => rfl)) (pa_cons (pe_ix ix_listK (pv 0) (pe_op op_add (pv 1) pe_int) (fun _ _ => rfl)) pa_nil))))))), ?_⟩
    refine ret_of (lc_r3 (n := m) (pa_1 pu_c (pa_1 (pu_len (pa_1 pu_v pa_0) hs) (pa_1 pu_c pa_0))) (rgC4 (by rw [nats, List.length_map]; exact hm) (by rw [nats, List.length_map]; exact hn)) fun D hD => ?_)
    refine lc_rangeC (fun i H' => Same H H' ∧ ∃ as : List Addr, H' D = some (.lst (as.map V.ref)) ∧ Objs (LegAt C H') as ((Kct0Neutral.legsOf ns).take i)) ⟨same_new hD, [], upd_same, Objs.nil⟩ ?_ ?_
    · rintro i H1 hi ⟨s1, as, hD1, O⟩
      obtain ⟨x, y, z, t, e1, e2, e3, e4, e5⟩ := legsOf_get m i ns hm hi
      have hs1 := sqL_same s1 hs
      refine ⟨rfl, yes_s ?_⟩
      refine pu_makeP (pa_1 (pu_ixL pu_v pu_v hs1 (at_of (j := 4 * i) (by omega) (nats_at e1))) (pa_1 (pu_ixL pu_v (pu_0 pu_v pu_c) hs1 (at_of (j := 4 * i + 1) (by omega) (nats_at e2))) (pa_1 (pu_ixL pu_v (pu_0 pu_v pu_c) hs1 (at_of (j := 4 * i + 2) (by omega) (nats_at e3))) (pa_1 (pu_ixL pu_v (pu_0 pu_v pu_c) hs1 (at_of (j := 4 * i + 3) (by omega) (nats_at e4))) pa_0))))
        rfl ⟨⟨x, y, z, t⟩, rfl, rfl⟩ fun p dx np nd ne => ?_
      have s2 : Same H1 (mkI H1 C p dx (legF ⟨x, y, z, t⟩)) := mkI_same np nd
      have hp : mkI H1 C p dx (legF ⟨x, y, z, t⟩) p = some (.ins C dx (legF ⟨x, y, z, t⟩)) := mkI_at
      generalize mkI H1 C p dx (legF ⟨x, y, z, t⟩) = H2 at s2 hp
      refine ⟨as.map V.ref, s2 _ _ hD1, lt_line (by
        rw [List.length_map, O.len, List.length_take, legsOf_len m ns hm]
        omega), same_upd (s1.trans s2) hD, as ++ [p], ?_, ?_⟩
      · rw [upd_same, List.map_append]; rfl
      · rw [take_snoc e5]
        have keep : ∀ (b : Addr) (l : Kct0.Leg), LegAt C H2 b l → LegAt C (upd H2 D (.lst (as.map V.ref ++ [.ref p]))) b l := fun b l ⟨d, e⟩ => ⟨d, by
          rw [upd_ne (ne_of e (s2 _ _ hD1) (by intro z; cases z))]
          exact e⟩
        exact (O.imp fun b l h => keep b l (h.same s2)).snoc (keep p _ ⟨dx, hp⟩)
    · rintro H1 ⟨s1, as, hD1, O⟩
      rw [List.take_of_length_le (by rw [legsOf_len m ns hm]; exact Nat.le_refl _)] at O
      exact k H1 D hD s1 ⟨as, hD1, O⟩
end
end LF
end

section
set_option Elab.async false
set_option linter.all false
set_option maxRecDepth 100000
namespace LF
open PySem PySem.Spec PyProof.Rows L2
/-! ### the mathematics of the offers as Python has them -/
def enc (o : Nat × Nat) : List Int := [(o.1 : Int), (o.2 : Int)]
def dec (l : List Int) : Nat × Nat := ((l.getD 0 0).toNat, (l.getD 1 0).toNat)
theorem dec_enc (o : Nat × Nat) : dec (enc o) = o := by
  unfold dec enc
  simp
theorem enc_olt (a b : Nat × Nat) : ilt (enc a) (enc b) = olt a b := by
  unfold enc olt
  show (if (a.1 : Int) = b.1 then (if (a.2 : Int) = b.2 then false else decide ((a.2 : Int) < b.2)) else decide ((a.1 : Int) < b.1)) = _
  by_cases h1 : a.1 = b.1
  · rw [if_pos (by omega), h1, beq_self_eq_true, Bool.true_and]
    by_cases h2 : a.2 = b.2
    · rw [if_pos (by omega), h2]; simp
    · rw [if_neg (by omega)]
      have e : decide ((a.2 : Int) < b.2) = decide (a.2 < b.2) := by rw [Bool.eq_iff_iff, decide_eq_true_iff, decide_eq_true_iff]; omega
      rw [e]; simp
  · rw [if_neg (by omega), beq_eq_false_iff_ne.mpr h1, Bool.false_and, Bool.or_false]
    rw [Bool.eq_iff_iff, decide_eq_true_iff, decide_eq_true_iff]; omega
theorem offs_snoc (c : Kct0.Card) (f : Kct0.Fare) : ∀ (l : List Kct0.Fare) (j : Nat), offsFrom c j (l ++ [f]) = offsFrom c j l ++ if f.open_ then [(Kct0.costs c f, j + l.length)] else []
  | [], j => by
    show (if f.open_ then (Kct0.costs c f, j) :: [] else []) = [] ++ _
    rw [List.nil_append]; rfl
  | g :: l, j => by
    show (if g.open_ then (Kct0.costs c g, j) :: offsFrom c (j + 1) (l ++ [f]) else offsFrom c (j + 1) (l ++ [f])) = (if g.open_ then (Kct0.costs c g, j) :: offsFrom c (j + 1) l else offsFrom c (j + 1) l) ++ _
    rw [offs_snoc c f l (j + 1)]
    have e : j + 1 + l.length = j + (g :: l).length := by rw [List.length_cons]; omega
    rw [e]
    split <;> rfl
theorem offs_len (c : Kct0.Card) : ∀ (l : List Kct0.Fare) (j : Nat), (offsFrom c j l).length ≤ l.length
  | [], _ => Nat.le_refl _
  | g :: l, j => by
    have := offs_len c l (j + 1)
    show (if g.open_ then (Kct0.costs c g, j) :: offsFrom c (j + 1) l else offsFrom c (j + 1) l).length ≤ l.length + 1
    split
    · rw [List.length_cons]; omega
    · omega
theorem offs_of_sorted {c : Kct0.Card} {fs : List Kct0.Fare} {prs prs' : List (Addr × List Int)} (e : prs.map (·.2) = (offsFrom c 0 fs).map enc) (hp : prs'.Perm prs) (hs : prs'.Pairwise fun a b => ilt b.2 a.2 = false) :
    Offs c fs (prs'.map fun p => dec p.2) ∧ ∀ p ∈ prs', p.2 = enc (dec p.2) := by
  have hmem : ∀ p ∈ prs', ∃ o, p.2 = enc o := fun p hp' => by
    have h1 : p.2 ∈ prs.map (·.2) := List.mem_map.mpr ⟨p, hp.mem_iff.mp hp', rfl⟩
    rw [e] at h1
    obtain ⟨o, _, ho⟩ := List.mem_map.mp h1
    exact ⟨o, ho.symm⟩
  have hb : ∀ p ∈ prs', p.2 = enc (dec p.2) := fun p hp' => by
    obtain ⟨o, ho⟩ := hmem p hp'
    rw [ho, dec_enc]
  refine ⟨⟨?_, ?_⟩, hb⟩
  · have h1 := (hp.map (·.2)).map dec
    rw [e, List.map_map, List.map_map] at h1
    have e2 : (offsFrom c 0 fs).map (dec ∘ enc) = offsFrom c 0 fs := by
      have : dec ∘ enc = id := by funext o; exact dec_enc o
      rw [this, List.map_id]
    rw [e2] at h1
    exact h1
  · rw [List.pairwise_map]
    refine hs.imp_of_mem fun {a b} ha hb' h => ?_
    rw [hb a ha, hb b hb', enc_olt] at h
    exact h
/-! ### what stands for what -/
theorem sqT_same {K : PySem.W.Frag} {H H' : Hp} {a : Addr} {xs : List V} (e : Same H H') (h : SqT K H a xs) : SqT K H' a xs := by
  rcases h with (h | ⟨o, h⟩) | h
  · exact .inl (.inl (e _ _ h))
  · exact .inl (.inr ⟨o, e _ _ h⟩)
  · exact .inr h
def OffAt (K : PySem.W.Frag) (H : Hp) (a : Addr) (o : Nat × Nat) : Prop := SqT K H a ((enc o).map V.int)
def OffsAt (K : PySem.W.Frag) (H : Hp) (l : Addr) (os : List (Nat × Nat)) : Prop := ∃ as : List Addr, H l = some (.lst (as.map V.ref)) ∧ Objs (OffAt K H) as os
theorem OffsAt.same {K : PySem.W.Frag} {H H' : Hp} {a : Addr} {os : List (Nat × Nat)} (s : Same H H') (h : OffsAt K H a os) : OffsAt K H' a os := let ⟨as, e, O⟩ := h; ⟨as, s _ _ e, O.imp fun _ _ => sqT_same s⟩
section
variable {P : Program} {w : World} {K : PySem.W.Frag} {mg : Str → Option Value} {base : Heap}
/-! ### offers_of -/
theorem pg_tupK {X : Cx} {pos : Pos} {es : List Expr} {k : Nat} {t : TGs} {n : Nat} (hc : X.calm = true) (h : PGs X es t)
    (hn : (assignEach es X.env).length = n := by rfl) (hst : (assignEach es X.env).findIdx? (·.1) = none := by rfl) (hK : X.K = K := by rfl) : PG X (.Tuple es k pos) (gTup K n t) := by subst hK; exact pg_tup hc h hn hst
theorem cr_sortedTK {X : Cx} (hK : X.K = K := by rfl) : CallR X (.builtin "sorted") (rSortedT K) := by subst hK; exact cr_sortedT
structure FaresOk (fs : List Kct0.Fare) : Prop where
  few : fs.length ≤ 64
  price : ∀ (i : Nat) (f : Kct0.Fare), fs[i]? = some f → f.price ≤ 1000000
def spOffs (C C2 : Addr) (K : PySem.W.Frag) : Sp := fun vs H Q _ => ∃ (la ca : Addr) (fs : List Kct0.Fare) (c : Kct0.Card), vs = [.ref la, .ref ca] ∧ FaresAt C H la fs ∧ CardAt C2 H ca c ∧ c.off ≤ 100 ∧ FaresOk fs ∧
  ∀ H' l os, Same H H' → OffsAt K H' l os → Offs c fs os → Q (.ref l) H'
theorem scOffs : FnScope ["fares", "card", "k", "fare"] ["fares", "card"] (defScope sOffs) := ⟨rfl, rfl, rfl, by decide +kernel, rfl, by decide +kernel, by decide +kernel⟩
theorem pu_cost {C : Addr} {t : TA} {σ : St} {H : Hp} {a : Addr} {c : Kct0.Card} {f : Kct0.Fare} {E : XK} (ha : Pa t σ H [.int (f.price : Int), .ref a]) (h : CardAt C H a c) (h1 : c.off ≤ 100) (h2 : f.price ≤ 1000000) : Pu (tCall (spCost C) [] E t) σ H (.int (Kct0.costs c f : Nat)) := fun _ q => ha _ ⟨0, a, c, f, rfl, h, h1, h2, q⟩
theorem ok_offs {f C fI C2 fI2 f1 : Addr} {fd fd1 : FuncData} (F : Fun K "offers_of" "offers_of" sOffs f fd) (T : TC K mg "Fare" C fI nFare) (B : TB mg) (L : FnT P w K mg base 1 "ticket_cost" ["price", "card"] (spCost C2) f1 fd1) :
    FnOk P w K mg base CX0 2 f fd ["fares", "card"] (spOffs C C2 K) := by
  refine F.ok scOffs (fun vs H Q E h => ?_) (fun cdv A outer s H vs Q E hr h => ?_)
  · obtain ⟨la, ca, fs, c, rfl, _⟩ := h
    rfl
  · obtain ⟨la, ca, fs, c, rfl, ⟨as, hla, O⟩, hca, hoff, hf, k⟩ := h
    refine ⟨_, pss_one (ps_ret (pe_callB cr_sortedTK (by rfl) B.sorted PyProof.Rows.boot_sorted (pa_cons (pe_lc (own := [("k", 2), ("fare", 3)]) rfl scOffs.nd (pi_enum rfl B.enum (pa_cons (pv 0) pa_nil)) (blkOk_by (by rfl))
      (fun _ _ _ _ _ => pg_tupK (n := 2) rfl (pgs_cons (pg_name (i := 2) scOffs.nd rfl (Or.inl rfl)) (pgs_cons (pg_name (i := 3) scOffs.nd rfl (Or.inl rfl)) pgs_nil)))
      (fun _ _ _ _ _ => pts_one (pt_not (ptruK (pe_fldK (pv 3)))))
      (fun _ _ _ _ _ => pe_tup (pa_cons (pcall L hr (pa_cons (pe_fldK (pv 3)) (pa_cons (pv 1) pa_nil))) (pa_cons (pv 2) pa_nil)))) pa_nil))), ?_⟩
    refine ret_of (cb_1 ?_)
    refine lc_e (pa_1 pu_v pa_0) (SqL.of hla) fun D hD => ?_
    refine lc_enum (K := K) (a := la) (xs := as.map V.ref) (fun i H' => Same H H' ∧ ∃ prs : List (Addr × List Int), H' D = some (.lst (prs.map fun p => V.ref p.1)) ∧ (∀ p ∈ prs, SqT K H' p.1 (p.2.map V.int)) ∧ prs.map (·.2) = (offsFrom c 0 (fs.take i)).map enc)
      ⟨same_new hD, [], upd_same, fun p hp => (by cases hp), rfl⟩ (fun i H' _ p => SqL.of (p.1 _ _ hla)) ?_ ?_
    · rintro i x H1 TT hi ⟨s1, prs, hD1, hT1, e1⟩ hTT
      obtain ⟨a, ha, rfl⟩ := ref_at hi
      obtain ⟨fr, hfr, dx, hp⟩ := O.get' ha
      have s2 : Same H1 (upd H1 TT (.tup [.int (i : Nat), .ref a])) := same_new hTT
      refine ⟨TT, _, rfl, SqT.of upd_same, rfl, _, _, rfl, _, _, rfl, rfl, rfl, ?_⟩
      have hlen : (fs.take i).length = i := by
        rw [List.length_take]
        have := (List.getElem?_eq_some_iff.mp hfr).1
        omega
      have s2' := s1.trans s2
      have hD2 := s2 _ _ hD1
      have hT2 : ∀ p ∈ prs, SqT K (upd H1 TT (.tup [.int (i : Nat), .ref a])) p.1 (p.2.map V.int) := fun p hp => sqT_same s2 (hT1 p hp)
      generalize upd H1 TT (.tup [.int (i : Nat), .ref a]) = H2 at s2' hD2 hT2
      have hp2 := s2' _ _ hp
      refine tst_s (b := fr.open_) (fun Q q => pt_not' (pt_bl (pu_fld pu_v hp2 T.cl (T.f 8) rfl)) _ (by rw [Bool.not_not]; exact q)) (fun ho => ?_) (fun ho => ?_)
      · refine pa_1 (pu_cost (pa_1 (pu_fld pu_v hp2 T.cl (T.f 3) rfl) (pa_1 pu_v pa_0)) (hca.same s2') hoff (hf.price i fr hfr)) (pa_1 pu_v pa_0) _ ⟨by show 2 ≤ sizeLine; decide, fun t ht => ?_⟩
        have s3 : Same H2 (upd H2 t (.tup [.int (Kct0.costs c fr : Nat), .int (i : Nat)])) := same_new ht
        have ht3 : upd H2 t (.tup [.int (Kct0.costs c fr : Nat), .int (i : Nat)]) t = some (.tup [.int (Kct0.costs c fr : Nat), .int (i : Nat)]) := upd_same
        generalize upd H2 t (.tup [.int (Kct0.costs c fr : Nat), .int (i : Nat)]) = H3 at s3 ht3
        refine ⟨_, s3 _ _ hD2, lt_line ?_, same_upd (s2'.trans s3) hD, prs ++ [(t, enc (Kct0.costs c fr, i))], ?_, ?_, ?_⟩
        · have e2 := congrArg List.length e1
          rw [List.length_map, List.length_map] at e2
          rw [List.length_map, e2]
          have := offs_len c (fs.take i) 0
          have := hf.few
          rw [List.length_take] at *
          omega
        · rw [upd_same, List.map_append]; rfl
        · have keep : ∀ (b : Addr) (xs : List V), SqT K H3 b xs → SqT K (upd H3 D (.lst (prs.map (fun p => V.ref p.1) ++ [.ref t]))) b xs := fun b xs h => by
            rcases h with (h | ⟨o, h⟩) | h
            · exact .inl (.inl (by rw [upd_ne (ne_of h (s3 _ _ hD2) (by intro z; cases z))]; exact h))
            · exact .inl (.inr ⟨o, by rw [upd_ne (ne_of h (s3 _ _ hD2) (by intro z; cases z))]; exact h⟩)
            · exact .inr h
          intro p hp'
          rcases List.mem_append.mp hp' with q | q
          · exact keep _ _ (sqT_same s3 (hT2 p q))
          · rw [List.mem_singleton.mp q]
            exact keep _ _ (SqT.of ht3)
        · rw [List.map_append, e1, take_snoc hfr, offs_snoc, if_pos ho, hlen, List.map_append, Nat.zero_add]
          rfl
      · refine ⟨s2', prs, hD2, hT2, ?_⟩
        rw [take_snoc hfr, offs_snoc, ho, if_neg Bool.false_ne_true, List.append_nil]
        exact e1
    · rintro H1 ⟨s1, prs, hD1, hT1, e1⟩
      rw [List.length_map, O.len, List.take_length] at e1
      refine ⟨D, prs, rfl, SqL.of hD1, fun p hp => ⟨?_, hT1 p hp⟩, fun prs' l hperm hsort hl => ?_⟩
      · have h1 : p.2 ∈ prs.map (·.2) := List.mem_map.mpr ⟨p, hp, rfl⟩
        rw [e1] at h1
        obtain ⟨o, _, ho⟩ := List.mem_map.mp h1
        rw [← ho]
        unfold enc
        simp
      · obtain ⟨hO, hb⟩ := offs_of_sorted e1 hperm hsort
        have s2 : Same H1 (upd H1 l (.lst (prs'.map fun p => V.ref p.1))) := same_new hl
        refine k _ l _ (s1.trans s2) ⟨prs'.map (·.1), by rw [upd_same, List.map_map]; rfl, ⟨by rw [List.length_map, List.length_map], fun i a x h1 h2 => ?_⟩⟩ hO
        rw [List.getElem?_map] at h1 h2
        cases e : prs'[i]? with
        | none => rw [e] at h1; cases h1
        | some p =>
          rw [e] at h1 h2
          have ea : p.1 = a := Option.some.inj h1
          have ex : dec p.2 = x := Option.some.inj h2
          have hp := List.mem_of_getElem? e
          rw [← ea, ← ex]
          show SqT K _ p.1 ((enc (dec p.2)).map V.int)
          rw [← hb p hp]
          exact sqT_same s2 (hT1 p (hperm.mem_iff.mp hp))
end
end LF
end

section
set_option Elab.async false
set_option linter.all false
set_option maxRecDepth 100000
namespace LF
open PySem PySem.Spec PyProof.Rows L2
/-! ### best_offer -/
theorem find_at {α : Type} {p : α → Bool} : ∀ {l : List α} {i : Nat} {x : α}, (∀ (j : Nat) (y : α), j < i → l[j]? = some y → p y = false) → l[i]? = some x → p x = true → l.find? p = some x
  | [], i, x, _, h, _ => by simp at h
  | a :: l, 0, x, _, h, hx => by
    have e : a = x := by simpa using h
    rw [e, List.find?_cons, hx]
  | a :: l, i + 1, x, hj, h, hx => by
    rw [List.find?_cons, hj 0 a (Nat.succ_pos _) rfl]
    exact find_at (i := i) (fun j y hj' hy => hj (j + 1) y (by omega) (by simpa using hy)) (by simpa using h) hx
theorem find_none {α : Type} {p : α → Bool} : ∀ {l : List α}, (∀ (j : Nat) (y : α), l[j]? = some y → p y = false) → l.find? p = none
  | [], _ => rfl
  | a :: l, h => by
    rw [List.find?_cons, h 0 a rfl]
    exact find_none fun j y hy => h (j + 1) y (by simpa using hy)
def OffV (K : PySem.W.Frag) (H : Hp) (v : V) : Option (Nat × Nat) → Prop
  | none => v = .non
  | some o => ∃ t, v = .ref t ∧ OffAt K H t o
section
variable {P : Program} {w : World} {K : PySem.W.Frag} {mg : Str → Option Value} {base : Heap}
def spBOff (C C2 : Addr) (K : PySem.W.Frag) : Sp := fun vs H Q _ => ∃ (la lo sa : Addr) (fs : List Kct0.Fare) (os : List (Nat × Nat)) (s : Stt), vs = [.ref la, .ref lo, .ref sa] ∧ FaresAt C H la fs ∧ OffsAt K H lo os ∧ StrAt C2 H sa s ∧ (∀ (i : Nat) (o : Nat × Nat), os[i]? = some o → o.2 < fs.length) ∧
  ∀ v, OffV K H v (bestOff fs os s) → Q v H
theorem scBOff : FnScope ["fares", "offers", "stretch", "offer"] ["fares", "offers", "stretch"] (defScope sBOff) := ⟨rfl, rfl, rfl, by decide +kernel, rfl, by decide +kernel, by decide +kernel⟩
theorem ok_bOff {f C C2 f1 : Addr} {fd fd1 : FuncData} (F : Fun K "best_offer" "best_offer" sBOff f fd) (L : FnT P w K mg base 1 "covers" ["fare", "stretch"] (spCov C C2) f1 fd1) :
    FnOk P w K mg base CX0 2 f fd ["fares", "offers", "stretch"] (spBOff C C2 K) := by
  refine F.ok scBOff (fun vs H Q E h => ?_) (fun cdv A outer s H vs Q E hr h => ?_)
  · obtain ⟨la, lo, sa, fs, os, s, rfl, _⟩ := h
    rfl
  · obtain ⟨la, lo, sa, fs, os, st, rfl, ⟨as, hla, O⟩, ⟨bs, hlo, O2⟩, hst, hin, k⟩ := h
    refine ⟨_, pss_cons (ps_for PassesOwn.never rfl (pi_list (pv 1)) (pg_name (i := 3) scBOff.nd rfl (Or.inl rfl))
        (pss_one (ps_if (ptru (pcall L hr (pa_cons (pe_ix ix_list (pv 0) (pe_ix ix_tup (pv 3) pe_int (fun _ _ => rfl)) (fun _ _ => rfl)) (pa_cons (pv 2) pa_nil)))) (pss_one (ps_ret (pv 3))) pss_nil)))
      (pss_one (ps_ret pe_non)), ?_⟩
    refine ⟨_, rfl, lo, rfl, ⟨_, SqL.of hlo⟩, for_list (K := K) (a := lo) (xs := bs.map V.ref) (fun i σ H' => (∃ v, σ = [some (.ref la), some (.ref lo), some (.ref sa), v]) ∧ H' = H ∧ ∀ (j : Nat) (o : Nat × Nat), j < i → os[j]? = some o → covAt fs st o = false)
      ⟨⟨none, rfl⟩, rfl, fun j o h => absurd h (Nat.not_lt_zero _)⟩ (fun i σ H' _ p => by rw [p.2.1]; exact SqL.of hlo) ?_ ?_⟩
    · rintro i y σ H' hi ⟨⟨v, rfl⟩, rfl, p1⟩
      obtain ⟨b, hb, rfl⟩ := ref_at hi
      obtain ⟨o, ho, ht⟩ := O2.get' hb
      have hlt := hin i o ho
      obtain ⟨fr, hfr⟩ : ∃ fr, fs[o.2]? = some fr := ⟨_, List.getElem?_eq_getElem hlt⟩
      obtain ⟨a, ha, hA⟩ := O.get hfr
      refine if_10 (pt_bl (pu_cov (pa_1 (pu_ixL pu_v (pu_ixT pu_v pu_c ht rfl) (SqL.of hla) (at_of (j := o.2) rfl (at_ref ha))) (pa_1 pu_v pa_0)) hA hst)) (fun h => ?_) (fun h => ?_)
      · refine ret_1 pu_v (k _ ?_)
        have e : bestOff fs os st = some o := find_at (fun j o' hj ho' => p1 j o' hj ho') ho (by unfold covAt; rw [hfr]; exact h)
        rw [e]
        exact ⟨b, rfl, ht⟩
      · refine ⟨⟨_, rfl⟩, rfl, fun j o' hj ho' => ?_⟩
        by_cases e : j = i
        · subst e
          rw [ho] at ho'
          cases ho'
          unfold covAt
          rw [hfr]
          exact h
        · exact p1 j o' (by omega) ho'
    · rintro σ H' ⟨⟨v, rfl⟩, rfl, p1⟩
      rw [List.length_map, O2.len] at p1
      refine (show Q .non H' from k _ ?_)
      have e : bestOff fs os st = none := find_none fun j o ho => p1 j o (List.getElem?_eq_some_iff.mp ho).1 ho
      rw [e]
      rfl
end
/-! ### plans as tuples -/
def tup4 (p : Kct0.Plan) : List Int := match p.tickets with
  | [] => [(p.cost : Int), 0, 0, 0]
  | (i, n) :: r => [(p.cost : Int), ((r.length + 1 : Nat) : Int), -(n : Int), (i : Int)]
theorem tup4_cost (p : Kct0.Plan) : (tup4 p)[0]? = some (p.cost : Int) ∧ (tup4 p)[1]? = some (p.tickets.length : Int) := by
  unfold tup4
  cases e : p.tickets with
  | nil => exact ⟨rfl, rfl⟩
  | cons t r => exact ⟨rfl, rfl⟩
def PlanV (K : PySem.W.Frag) (H : Hp) (v : V) : Option Kct0.Plan → Prop
  | none => v = .non
  | some p => ∃ t, v = .ref t ∧ SqT K H t ((tup4 p).map V.int)
theorem PlanV.same {K : PySem.W.Frag} {H H' : Hp} {v : V} {p : Option Kct0.Plan} (s : Same H H') (h : PlanV K H v p) : PlanV K H' v p := by
  cases p with
  | none => exact h
  | some p => obtain ⟨t, e, q⟩ := h; exact ⟨t, e, sqT_same s q⟩
theorem better_ilt {a b : Kct0.Plan} (ha : a.tickets ≠ []) (hb : b.tickets ≠ []) : Kct0.better a b = ilt (tup4 a) (tup4 b) := by
  obtain ⟨ca, ta⟩ := a
  obtain ⟨cb, tb⟩ := b
  cases ta with
  | nil => exact absurd rfl ha
  | cons x r =>
    cases tb with
    | nil => exact absurd rfl hb
    | cons y q =>
      obtain ⟨i, n⟩ := x
      obtain ⟨j, m⟩ := y
      unfold Kct0.better Kct0.firstOf
      show (decide (ca < cb) || (ca == cb && (decide (r.length + 1 < q.length + 1) || (r.length + 1 == q.length + 1 && (decide (m < n) || (n == m && decide (i < j))))))) =
        if (ca : Int) = cb then (if ((r.length + 1 : Nat) : Int) = ((q.length + 1 : Nat) : Int) then (if -(n : Int) = -(m : Int) then (if (i : Int) = j then false else decide ((i : Int) < j)) else decide (-(n : Int) < -(m : Int))) else decide (((r.length + 1 : Nat) : Int) < ((q.length + 1 : Nat) : Int))) else decide ((ca : Int) < cb)
      rw [Bool.eq_iff_iff]
      simp only [Bool.or_eq_true, Bool.and_eq_true, decide_eq_true_iff, beq_iff_eq]
      split
      · split
        · split
          · split
            · constructor
              · intro h; omega
              · intro h; cases h
            · rw [decide_eq_true_iff]; omega
          · rw [decide_eq_true_iff]; omega
        · rw [decide_eq_true_iff]; omega
      · rw [decide_eq_true_iff]; omega
theorem fold_minA : ∀ (r : List (Addr × List Int)) (p : Addr × List Int) (q : Kct0.Plan) (ps : List Kct0.Plan), r.map (·.2) = ps.map tup4 → p.2 = tup4 q → q.tickets ≠ [] → (∀ x ∈ ps, x.tickets ≠ []) →
    (r.foldl pickA p).2 = tup4 (ps.foldl minStep q) ∧ (r.foldl pickA p) ∈ p :: r
  | [], p, q, ps, h, hp, _, _ => by
    have e : ps = [] := by simpa using h
    subst e
    exact ⟨hp, List.mem_cons_self ..⟩
  | x :: r, p, q, ps, h, hp, hq, hps => by
    cases ps with
    | nil => simp at h
    | cons y ps =>
      rw [List.map_cons, List.map_cons, List.cons.injEq] at h
      have hy := hps y (List.mem_cons_self ..)
      have e : (pickA p x).2 = tup4 (minStep q y) ∧ (minStep q y).tickets ≠ [] ∧ (pickA p x = p ∨ pickA p x = x) := by
        unfold pickA minStep
        rw [h.1, hp, ← better_ilt hy hq]
        by_cases hb : Kct0.better y q = true
        · rw [if_pos hb, if_pos hb]; exact ⟨h.1, hy, .inr rfl⟩
        · rw [if_neg hb, if_neg hb]; exact ⟨hp, hq, .inl rfl⟩
      obtain ⟨h1, h2⟩ := fold_minA r (pickA p x) (minStep q y) ps h.2 e.1 e.2.1 (fun z hz => hps z (List.mem_cons_of_mem _ hz))
      refine ⟨h1, ?_⟩
      rw [List.foldl_cons]
      rcases List.mem_cons.mp h2 with q2 | q2
      · rw [q2]
        rcases e.2.2 with z | z
        · rw [z]; exact List.mem_cons_self ..
        · rw [z]; exact List.mem_cons_of_mem _ (List.mem_cons_self ..)
      · exact List.mem_cons_of_mem _ (List.mem_cons_of_mem _ q2)
theorem minA_planV {K : PySem.W.Frag} {H : Hp} {prs : List (Addr × List Int)} {ps : List Kct0.Plan} (h : prs.map (·.2) = ps.map tup4) (hps : ∀ x ∈ ps, x.tickets ≠ []) (hT : ∀ p ∈ prs, SqT K H p.1 (p.2.map V.int)) : PlanV K H (minA prs) (minP ps) := by
  cases prs with
  | nil =>
    have e : ps = [] := by simpa using h
    subst e
    rfl
  | cons p r =>
    cases ps with
    | nil => simp at h
    | cons q ps =>
      rw [List.map_cons, List.map_cons, List.cons.injEq] at h
      obtain ⟨h1, h2⟩ := fold_minA r p q ps h.2 h.1 (hps q (List.mem_cons_self ..)) fun x hx => hps x (List.mem_cons_of_mem _ hx)
      refine ⟨(r.foldl pickA p).1, rfl, ?_⟩
      rw [← h1]
      exact hT _ h2
theorem founds_succ (fs : List Kct0.Fare) (os : List (Nat × Nat)) (x : Kct0.Leg) (l : List Kct0.Leg) (r : List (Option Kct0.Plan)) (m : Nat) :
    founds fs os x l r (m + 1) = founds fs os x l r m ++ ((((r[m]?).bind id).bind fun p => (bestOff fs os ((l.take m).foldl grow (st1 x))).map (planOf p (m + 1))).toList) := by
  unfold founds
  rw [List.range_succ, List.filterMap_append]
  congr 1
theorem founds_ne {fs : List Kct0.Fare} {os : List (Nat × Nat)} {x : Kct0.Leg} {l : List Kct0.Leg} {r : List (Option Kct0.Plan)} {m : Nat} : ∀ p ∈ founds fs os x l r m, p.tickets ≠ [] := fun p hp => by
  obtain ⟨k, q, o, _, _, _, rfl⟩ := founds_mem hp
  unfold planOf
  simp
theorem founds_len (fs : List Kct0.Fare) (os : List (Nat × Nat)) (x : Kct0.Leg) (l : List Kct0.Leg) (r : List (Option Kct0.Plan)) (m : Nat) : (founds fs os x l r m).length ≤ m := by
  unfold founds
  have := List.length_filterMap_le (fun k => ((r[k]?).bind id).bind fun p => (bestOff fs os ((l.take k).foldl grow (st1 x))).map (planOf p (k + 1))) (List.range m)
  rw [List.length_range] at this
  exact this
theorem tup4_planOf (p : Kct0.Plan) (n : Nat) (o : Nat × Nat) : tup4 (planOf p n o) = [((o.1 + p.cost : Nat) : Int), ((p.tickets.length + 1 : Nat) : Int), -(n : Int), (o.2 : Int)] := rfl
end LF
end

section
set_option Elab.async false
set_option linter.all false
set_option maxRecDepth 100000
namespace LF
open PySem PySem.Spec PyProof.Rows L2
/-! ### best_plan -/
/-- a method of the text, to be called -/
structure MeT (P : Program) (w : World) (K : PySem.W.Frag) (mg : Str → Option Value) (base : Heap) (k : Nat) (C : Addr) (m : Str) (ps : List Str) (sp : Sp) (f : Addr) (fd : FuncData) : Prop where
  ok : FnOk P w K mg base CX0 k f fd ps sp
  me : Meth K C m f
  b : Binds K fd ps []
/-- tuples stay where a list is written -/
theorem sqT_lst {K : PySem.W.Frag} {H : Hp} {a D : Addr} {xs ys zs : List V} (hD : H D = some (.lst ys)) (h : SqT K H a xs) : SqT K (upd H D (.lst zs)) a xs := by
  rcases h with (h | ⟨o, h⟩) | h
  · exact .inl (.inl (by rw [upd_ne (ne_of h hD (by intro z; cases z))]; exact h))
  · exact .inl (.inr ⟨o, by rw [upd_ne (ne_of h hD (by intro z; cases z))]; exact h⟩)
  · exact .inr h
theorem sqT_kept {K : PySem.W.Frag} {H H' : Hp} {a : Addr} {xs : List V} (h : SqT K H a xs) (k : ∀ o, H a = some o → (∃ u, o = .tup u ∨ ∃ ob, o = .frz ob (.tup u)) → H' a = some o) : SqT K H' a xs := by
  rcases h with (h | ⟨o, h⟩) | h
  · exact .inl (.inl (k _ h ⟨xs, .inl rfl⟩))
  · exact .inl (.inr ⟨o, k _ h ⟨xs, .inr ⟨o, rfl⟩⟩⟩)
  · exact .inr h
theorem at_v {xs : List V} {j : Nat} {v : V} (h : xs[j]? = some v) {z : Int} (e : z = (j : Int)) : atI xs z = some v := at_of e h
section
variable {P : Program} {w : World} {K : PySem.W.Frag} {mg : Str → Option Value} {base : Heap}
def spBPlan (CF CL : Addr) (K : PySem.W.Frag) : Sp := fun vs H Q _ => ∃ (la lo ll pl : Addr) (start : Nat) (fs : List Kct0.Fare) (os : List (Nat × Nat)) (ls l : List Kct0.Leg) (x : Kct0.Leg) (pvs : List V) (r : List (Option Kct0.Plan)),
  vs = [.ref la, .ref lo, .ref ll, .int (start : Int), .ref pl] ∧ FaresAt CF H la fs ∧ OffsAt K H lo os ∧ (∀ (i : Nat) (o : Nat × Nat), os[i]? = some o → o.2 < fs.length) ∧ LegsAt CL H ll ls ∧ ls.length ≤ 16 ∧ ls.drop start = x :: l ∧ H pl = some (.lst pvs) ∧ r.length = l.length + 1 ∧
  (∀ (k : Nat) (q : Option Kct0.Plan), r[k]? = some q → ∃ v, pvs[start + 1 + k]? = some v ∧ PlanV K H v q) ∧ ∀ H' v, Same H H' → PlanV K H' v (minP (founds fs os x l r (l.length + 1))) → Q v H'
theorem scBPlan : FnScope ["fares", "offers", "legs", "start", "plans", "found", "stretch", "end", "rest", "offer"] ["fares", "offers", "legs", "start", "plans"] (defScope sBPlan) := ⟨rfl, rfl, rfl, by decide +kernel, rfl, by decide +kernel, by decide +kernel⟩
theorem drop_at {α : Type} {ls l : List α} {x : α} {s : Nat} (h : ls.drop s = x :: l) : ls[s]? = some x ∧ (∀ i, ls[s + 1 + i]? = l[i]?) ∧ ls.length = s + 1 + l.length := by
  have h0 : ∀ i, ls[s + i]? = (x :: l)[i]? := fun i => by rw [← h, List.getElem?_drop]
  refine ⟨h0 0, fun i => ?_, ?_⟩
  · rw [show s + 1 + i = s + (i + 1) from by omega, h0 (i + 1)]
    rfl
  · have := congrArg List.length h
    rw [List.length_drop, List.length_cons] at this
    omega
theorem passed_len : ∀ (l : List Kct0.Leg) (s : Stt), (l.foldl grow s).passed.length = s.passed.length + l.length
  | [], s => rfl
  | y :: l, s => by
    rw [List.foldl_cons, passed_len l (grow s y)]
    show (s.passed ++ [s.to]).length + l.length = s.passed.length + (l.length + 1)
    rw [List.length_append]
    show s.passed.length + 1 + l.length = _
    omega
set_option maxHeartbeats 2000000 in
theorem ok_bPlan {f CF CL CS fS fG fB fIL : Addr} {fd fdS fdG fdB : FuncData} (F : Fun K "best_plan" "best_plan" sBPlan f fd) (TS : TC K mg "Stretch" CS fS nStr) (B : TB mg)
    (MS : FnOk P w K mg base CX0 1 fS fdS ["self", "leg"] (spStrI CS CL)) (bS : Binds K fdS ["self", "leg"] []) (MG : MeT P w K mg base 1 CS "grow" ["self", "leg"] (spGrow CS CL) fG fdG)
    (LB : FnT P w K mg base 2 "best_offer" ["fares", "offers", "stretch"] (spBOff CF CS K) fB fdB) :
    FnOk P w K mg base CX0 3 f fd ["fares", "offers", "legs", "start", "plans"] (spBPlan CF CL K) := by
  refine F.ok scBPlan (fun vs H Q E h => ?_) (fun cdv A outer s H vs Q E hr h => ?_)
  · obtain ⟨la, lo, ll, pl, start, fs, os, ls, l, x, pvs, r, rfl, _⟩ := h
    rfl
  · obtain ⟨la, lo, ll, pl, start, fs, os, ls, l, x, pvs, r, rfl, hF, hO, hin, ⟨as, hll, OL⟩, h16, hdrop, hpl, hrl, hr0, k⟩ := h
    have hr1 : Room 1 _ := hr.mono (by decide)
    obtain ⟨hx0, hxi, hlen⟩ := drop_at hdrop
    have nd := scBPlan.nd
    refine ⟨_, pss_cons (ps_set (i := 5) nd rfl (Or.inl rfl) (pe_lst pa_nil))
      (pss_cons (ps_set (i := 6) nd rfl (Or.inl rfl) (pmake TS MS bS hr (pa_cons (pe_ix ix_list (pv 2) (pv 3) (fun _ _ => rfl)) pa_nil)))
      (pss_cons (ps_for PassesOwn.never rfl (pi_range2 rfl B.range (pa_cons (pv 3) (pa_cons (pe_callB call_len_seq (by rfl) B.len PySem.boot_len (pa_cons (pv 2) pa_nil)) pa_nil))) (pg_name (i := 7) nd rfl (Or.inl rfl))
        (pss_cons (ps_if (pt_cmpR op_gt (pv 7) (pv 3) (nomark _)) (pss_one (ps_expr (pe_meth (pv 6) TS.cl MG.me MG.ok hr1 MG.b .nil pass0 (pa_cons (pe_ix ix_list (pv 2) (pv 7) (fun _ _ => rfl)) pa_nil)))) pss_nil)
        (pss_cons (ps_set (i := 8) nd rfl (Or.inl rfl) (pe_ix ix_list (pv 4) (pe_op op_add (pv 7) pe_int) (fun _ _ => rfl)))
        (pss_one (ps_if (pt_cmp (pc_notN (pv 8)))
          (pss_cons (ps_set (i := 9) nd rfl (Or.inl rfl) (pcall LB hr (pa_cons (pv 0) (pa_cons (pv 1) (pa_cons (pv 6) pa_nil)))))
          (pss_one (ps_if (pt_cmp (pc_notN (pv 9)))
            (pss_one (ps_expr (pe_bm PySem.F.plainAttrs_list PySem.F.slot_list_append PySem.F.type_list_append mt_append (pv 5)
              (pa_cons (pe_tup (pa_cons (pe_op op_add (pe_ix ix_tup (pv 9) pe_int (fun _ _ => rfl)) (pe_ix ix_tup (pv 8) pe_int (fun _ _ => rfl))) (pa_cons (pe_op op_add pe_int (pe_ix ix_tup (pv 8) pe_int (fun _ _ => rfl)))
                (pa_cons (pe_op op_sub (pe_op op_sub (pv 3) (pv 7)) pe_int) (pa_cons (pe_ix ix_tup (pv 9) pe_int (fun _ _ => rfl)) pa_nil))))) pa_nil)))) pss_nil))) pss_nil)))))
      (pss_one (ps_ret (pe_minD rfl (hu_of hr) rfl B.min (pa_cons (pv 5) pa_nil)))))), ?_⟩
    -- found = []
    refine asg_s ⟨Nat.zero_le _, fun fl hfl => ?_⟩
    have s1 : Same H (upd H fl (.lst [])) := same_new hfl
    have hfl1 : upd H fl (.lst []) fl = some (.lst []) := upd_same
    generalize upd H fl (.lst []) = H1 at s1 hfl1
    -- stretch = Stretch(legs[start])
    obtain ⟨ax, hax, hAx⟩ := OL.get hx0
    refine asg_s (pu_ixL pu_v pu_v (SqL.of (s1 _ _ hll)) (at_v (at_ref hax) rfl) _ ?_)
    intro xs dxs nx ndx nex
    have sm : Same H1 (upd (upd H1 dxs (.own xs)) xs (.ins CS dxs [])) := fun b o e => by rw [upd_ne (ne_of_none e nx), upd_ne (ne_of_none e ndx)]; exact e
    have hAx1 := (hAx.same s1).same sm
    have nax : xs ≠ ax := by
      obtain ⟨d, e⟩ := hAx.same s1
      exact (ne_of_none e nx).symm
    refine ⟨xs, dxs, ax, x, rfl, upd_same, nax, hAx1, fun H2 spl hspl hS2 k2 => ⟨rfl, ?_⟩⟩
    have s2' : Same H1 H2 := fun b o e => k2 b o (sm b o e) (ne_of_none e nx)
    have nxs : xs ≠ spl := by
      intro q
      rw [← q, upd_same] at hspl
      cases hspl
    have hspl1 : H1 spl = none := by
      cases q : H1 spl with
      | none => rfl
      | some o => rw [sm _ _ q] at hspl; cases hspl
    have hsplH : H spl = none := s1.free hspl1
    have hxsH : H xs = none := s1.free nx
    have nfs : fl ≠ spl := ne_of_none hfl1 hspl1
    have s2 : Same H H2 := s1.trans s2'
    have hfl2 := s2' _ _ hfl1
    -- for end in range(start, len(legs))
    refine for_r2 (pa_1 pu_v (pa_1 (pu_len (pa_1 pu_v pa_0) (SqL.of (s2 _ _ hll))) pa_0)) ⟨by omega, by omega, by omega, by rw [List.length_map, OL.len]; omega⟩ ?_
    have hturns : (((as.map V.ref).length : Int) - (start : Int)).toNat = l.length + 1 := by rw [List.length_map, OL.len, hlen]; omega
    rw [hturns]
    refine for_range (lo := (start : Int)) (n := l.length + 1) (fun i σ H' => (∃ v7 v8 v9, σ = [some (.ref la), some (.ref lo), some (.ref ll), some (.int (start : Int)), some (.ref pl), some (.ref fl), some (.ref xs), v7, v8, v9]) ∧ Same H H' ∧ StrP CS H' xs spl ((l.take (i - 1)).foldl grow (st1 x)) ∧
        ∃ prs : List (Addr × List Int), H' fl = some (.lst (prs.map fun p => V.ref p.1)) ∧ (∀ p ∈ prs, SqT K H' p.1 (p.2.map V.int)) ∧ prs.map (·.2) = (founds fs os x l r i).map tup4)
      ⟨⟨none, none, none, rfl⟩, s2, hS2, [], hfl2, fun p hp => (by cases hp), rfl⟩ ?_ ?_
    · rintro i σ H3 hi ⟨⟨v7, v8, v9, rfl⟩, s3, hS3, prs, hfl3, hT3, e3⟩
      -- if end > start: stretch.grow(legs[end])
      refine if_sj (fun H4 => Same H H4 ∧ StrP CS H4 xs spl ((l.take i).foldl grow (st1 x)) ∧ H4 fl = some (.lst (prs.map fun p => V.ref p.1)) ∧ ∀ p ∈ prs, SqT K H4 p.1 (p.2.map V.int))
        (pt_of (pu_0 pu_v pu_v)) (fun hb N hN => ?_) (fun hb => ?_) ?_
      · have hi0 : 0 < i := by
          have := of_decide_eq_true (show decide ((start : Int) < (start : Int) + (i : Int)) = true from hb)
          omega
        obtain ⟨m, rfl⟩ : ∃ m, i = m + 1 := ⟨i - 1, by omega⟩
        rw [Nat.add_sub_cancel] at hS3
        have hlm : m < l.length := by omega
        obtain ⟨y, hy⟩ : ∃ y, l[m]? = some y := ⟨_, List.getElem?_eq_getElem hlm⟩
        have hy' : ls[start + 1 + m]? = some y := by rw [hxi, hy]
        obtain ⟨ay, hay, hAy⟩ := OL.get hy'
        obtain ⟨dS, hxs3, hspl3⟩ := id hS3
        have nxy : xs ≠ ay := by
          obtain ⟨d, e⟩ := hAy
          exact (ne_of_none e hxsH).symm
        refine ⟨_, rfl, xs, dS, _, rfl, hxs3, rfl, pu_ixL pu_v pu_v (SqL.of (s3 _ _ hll)) (at_v (at_ref hay) (by omega)) _ ⟨xs, spl, ay, _, y, rfl, hS3, hAy.same s3, nxy, ?_, fun H4 hS4 k4 => ?_⟩⟩
        · rw [passed_len]
          show 0 + _ ≤ 1000
          rw [List.length_take]
          omega
        · refine hN H4 ⟨fun b o e => k4 b o (s3 b o e) (ne_of_none e hxsH) (ne_of_none e hsplH), ?_, k4 _ _ hfl3 (ne_of hfl3 hxs3 (by intro z; cases z)) nfs, fun p hp => ?_⟩
          · rw [take_snoc hy, List.foldl_append]
            exact hS4
          · refine sqT_kept (hT3 p hp) fun o ho hu => k4 _ _ ho (fun q => ?_) (fun q => ?_)
            · rw [q, hxs3] at ho
              obtain ⟨u, hu | ⟨ob, hu⟩⟩ := hu
              · rw [hu] at ho; cases ho
              · rw [hu] at ho; cases ho
            · rw [q, hspl3] at ho
              obtain ⟨u, hu | ⟨ob, hu⟩⟩ := hu
              · rw [hu] at ho; cases ho
              · rw [hu] at ho; cases ho
      · have hi0 : i = 0 := by
          have := of_decide_eq_false (show decide ((start : Int) < (start : Int) + (i : Int)) = false from hb)
          omega
        subst hi0
        exact ⟨s3, hS3, hfl3, hT3⟩
      · rintro H4 ⟨s4, hS4, hfl4, hT4⟩
        -- rest = plans[end + 1]
        obtain ⟨q, hq⟩ : ∃ q, r[i]? = some q := ⟨_, List.getElem?_eq_getElem (by rw [hrl]; exact hi)⟩
        obtain ⟨v, hv, hPv⟩ := hr0 i q hq
        refine set_s (pu_ixL pu_v (pu_0 pu_v pu_c) (SqL.of (s4 _ _ hpl)) (at_v hv (by omega))) ?_
        have hsucc := founds_succ fs os x l r i
        rw [hq] at hsucc
        refine if_10 (pt_B (pu_notN pu_v)) (fun hn => ?_) (fun hn => ?_)
        · cases q with
          | none =>
            rw [show v = .non from hPv] at hn
            cases hn
          | some p =>
            obtain ⟨tp, rfl, htp⟩ := hPv
            have htp4 := sqT_same s4 htp
            -- offer = best_offer(fares, offers, stretch)
            refine asg_s (pa_1 pu_v (pa_1 pu_v (pa_1 pu_v pa_0)) _ ⟨la, lo, xs, fs, os, _, rfl, hF.same s4, hO.same s4, hS4.at, hin, fun vo hvo => ?_⟩)
            have hsucc2 : founds fs os x l r (i + 1) = founds fs os x l r i ++ ((bestOff fs os ((l.take i).foldl grow (st1 x))).map (planOf p (i + 1))).toList := hsucc
            refine if_10 (pt_B (pu_notN pu_v)) (fun hn2 => ?_) (fun hn2 => ?_)
            · cases ho : bestOff fs os ((l.take i).foldl grow (st1 x)) with
              | none =>
                rw [ho] at hvo
                rw [show vo = .non from hvo] at hn2
                cases hn2
              | some o =>
                rw [ho] at hvo hsucc2
                obtain ⟨to, rfl, hto⟩ := hvo
                have c0 := (tup4_cost p).1
                have c1 := (tup4_cost p).2
                have hv0 : ((tup4 p).map V.int)[0]? = some (.int (p.cost : Int)) := by rw [List.getElem?_map, c0]; rfl
                have hv1 : ((tup4 p).map V.int)[1]? = some (.int (p.tickets.length : Int)) := by rw [List.getElem?_map, c1]; rfl
                -- found.append((..))
                refine app_of pu_v hfl4 ?_
                refine tup_in (pa_1 (pu_0 (pu_ixT pu_v pu_c hto rfl) (pu_ixT pu_v pu_c htp4 (at_v (j := 0) hv0 rfl))) (pa_1 (pu_0 pu_c (pu_ixT pu_v pu_c htp4 (at_v (j := 1) hv1 rfl))) (pa_1 (pu_0 (pu_0 pu_v pu_v) pu_c) (pa_1 (pu_ixT pu_v pu_c hto rfl) pa_0)))) (by show 4 ≤ sizeLine; decide) fun tt htt => ?_
                have et : [V.int ((o.1 : Int) + (p.cost : Int)), V.int (1 + (p.tickets.length : Int)), V.int ((start : Int) - ((start : Int) + (i : Int)) - 1), V.int (o.2 : Int)] = (tup4 (planOf p (i + 1) o)).map V.int := by
                  rw [tup4_planOf]
                  show _ = [V.int _, V.int _, V.int _, V.int _]
                  rw [show ((o.1 + p.cost : Nat) : Int) = (o.1 : Int) + (p.cost : Int) from by omega, show ((p.tickets.length + 1 : Nat) : Int) = 1 + (p.tickets.length : Int) from by omega, show -((i + 1 : Nat) : Int) = (start : Int) - ((start : Int) + (i : Int)) - 1 from by omega]
                rw [et]
                have s5 : Same H4 (upd H4 tt (.tup ((tup4 (planOf p (i + 1) o)).map V.int))) := same_new htt
                have ht5 : upd H4 tt (.tup ((tup4 (planOf p (i + 1) o)).map V.int)) tt = some (.tup ((tup4 (planOf p (i + 1) o)).map V.int)) := upd_same
                generalize upd H4 tt (.tup ((tup4 (planOf p (i + 1) o)).map V.int)) = H5 at s5 ht5
                obtain ⟨dS, hxs4, hspl4⟩ := id hS4
                have hfl5 := s5 _ _ hfl4
                refine ⟨fl, _, _, rfl, rfl, hfl5, lt_line ?_, ⟨_, _, _, rfl⟩, same_upd (s4.trans s5) hfl, ?_, prs ++ [(tt, tup4 (planOf p (i + 1) o))], ?_, ?_, ?_⟩
                · have e2 := congrArg List.length e3
                  rw [List.length_map, List.length_map] at e2
                  rw [List.length_map, e2]
                  have := founds_len fs os x l r i
                  omega
                · refine ⟨dS, ?_, ?_⟩
                  · rw [upd_ne (ne_of (s5 _ _ hxs4) hfl5 (by intro z; cases z))]
                    exact s5 _ _ hxs4
                  · rw [upd_ne (Ne.symm nfs)]
                    exact s5 _ _ hspl4
                · rw [upd_same, List.map_append]; rfl
                · intro p' hp'
                  rcases List.mem_append.mp hp' with z | z
                  · exact sqT_lst hfl5 (sqT_same s5 (hT4 p' z))
                  · rw [List.mem_singleton.mp z]
                    exact sqT_lst hfl5 (SqT.of ht5)
                · rw [List.map_append, e3, hsucc2, List.map_append]; rfl
            · cases ho : bestOff fs os ((l.take i).foldl grow (st1 x)) with
              | none =>
                rw [ho] at hsucc2
                refine ⟨⟨_, _, _, rfl⟩, s4, hS4, prs, hfl4, hT4, ?_⟩
                rw [hsucc2]
                show _ = (founds fs os x l r i ++ []).map tup4
                rw [List.append_nil]
                exact e3
              | some o =>
                rw [ho] at hvo
                obtain ⟨to, rfl, hto⟩ := hvo
                cases hn2
        · cases q with
          | none =>
            refine ⟨⟨_, _, _, rfl⟩, s4, hS4, prs, hfl4, hT4, ?_⟩
            rw [hsucc]
            show _ = (founds fs os x l r i ++ []).map tup4
            rw [List.append_nil]
            exact e3
          | some p =>
            obtain ⟨tp, rfl, htp⟩ := hPv
            cases hn
    · rintro σ H3 ⟨⟨v7, v8, v9, rfl⟩, s3, hS3, prs, hfl3, hT3, e3⟩
      exact ⟨_, rfl, fl, prs, rfl, SqL.of hfl3, hT3, k H3 _ s3 (minA_planV e3 founds_ne hT3)⟩
end
end LF
end

section
set_option Elab.async false
set_option linter.all false
set_option maxRecDepth 100000
namespace LF
open PySem PySem.Spec PyProof.Rows L2
/-! ### the mathematics: the tickets of a plan -/
theorem plans_at {fs : List Kct0.Fare} {c : Kct0.Card} {ls l : List Kct0.Leg} {x : Kct0.Leg} {s : Nat} (h : ls.drop s = x :: l) : (∀ k, (Kct0.plans fs c ls)[s + 1 + k]? = (Kct0.plans fs c l)[k]?) ∧ ∀ os, Offs c fs os → (Kct0.plans fs c ls)[s]? = some (minP (founds fs os x l (Kct0.plans fs c l) (l.length + 1))) := by
  have hlt : s ≤ ls.length := by
    have := (drop_at h).2.2
    omega
  have e := plans_drop (fs := fs) (c := c) ls s hlt
  rw [h] at e
  have hcons : ∃ hd, Kct0.plans fs c (x :: l) = hd :: Kct0.plans fs c l := ⟨_, rfl⟩
  obtain ⟨hd, hc⟩ := hcons
  refine ⟨fun k => ?_, fun os O => ?_⟩
  · have e2 : ((Kct0.plans fs c ls).drop s)[k + 1]? = (Kct0.plans fs c l)[k]? := by rw [← e, hc]; rfl
    rw [List.getElem?_drop] at e2
    rw [show s + 1 + k = s + (k + 1) from by omega]
    exact e2
  · have e2 : ((Kct0.plans fs c ls).drop s)[0]? = some (minP (founds fs os x l (Kct0.plans fs c l) (l.length + 1))) := by rw [← e, plans_cons O]; rfl
    rw [List.getElem?_drop] at e2
    exact e2
theorem plans_end {fs : List Kct0.Fare} {c : Kct0.Card} : ∀ ls : List Kct0.Leg, (Kct0.plans fs c ls)[ls.length]? = some (some ⟨0, []⟩)
  | [] => rfl
  | x :: l => by
    have hcons : ∃ hd, Kct0.plans fs c (x :: l) = hd :: Kct0.plans fs c l := ⟨_, rfl⟩
    obtain ⟨hd, hc⟩ := hcons
    rw [hc]
    show (Kct0.plans fs c l)[l.length]? = _
    exact plans_end l
/-- the first ticket of a plan, and what is behind it -/
theorem plan_step {fs : List Kct0.Fare} {c : Kct0.Card} {os : List (Nat × Nat)} (O : Offs c fs os) {ls : List Kct0.Leg} {s : Nat} {p : Kct0.Plan} (hs : s < ls.length) (hp : (Kct0.plans fs c ls)[s]? = some (some p)) :
    ∃ (k i pr : Nat) (q : Kct0.Plan), s + (k + 1) ≤ ls.length ∧ (Kct0.plans fs c ls)[s + (k + 1)]? = some (some q) ∧ p = ⟨pr + q.cost, (i, k + 1) :: q.tickets⟩ ∧ i < fs.length ∧ ∀ n, Kct0.priceOf fs c (i, n) = pr := by
  obtain ⟨x, l, hd⟩ : ∃ x l, ls.drop s = x :: l := by
    cases e : ls.drop s with
    | nil =>
      have := congrArg List.length e
      rw [List.length_drop] at this
      simp at this
      omega
    | cons x l => exact ⟨x, l, rfl⟩
  obtain ⟨h1, h2⟩ := plans_at (fs := fs) (c := c) hd
  have h3 := h2 os O
  rw [hp] at h3
  obtain ⟨k, q, o, hk, hq, ho, rfl⟩ := founds_mem (minP_mem (Option.some.inj h3).symm)
  have hlen := (drop_at hd).2.2
  rcases bestOff_is (s := (l.take k).foldl grow (st1 x)) O with ⟨e, _⟩ | ⟨o', e, B⟩
  · rw [e] at ho; cases ho
  · rw [e] at ho
    cases ho
    obtain ⟨f, hf, _, _, hc⟩ := B.is
    refine ⟨k, o.2, o.1, q, by omega, ?_, rfl, (List.getElem?_eq_some_iff.mp hf).1, fun n => ?_⟩
    · rw [show s + (k + 1) = s + 1 + k from by omega, h1]
      exact hq
    · unfold Kct0.priceOf
      show (fs[o.2]?).elim 0 (Kct0.costs c) = o.1
      rw [hf, hc]
      rfl
theorem sell_cons (fs : List Kct0.Fare) (c : Kct0.Card) (a : Nat) (t : Kct0.Ticket) (r : List Kct0.Ticket) : Kct0.sell fs c ⟨a, t :: r⟩ = ⟨t.1, t.2, Kct0.priceOf fs c t, false⟩ :: Kct0.sell fs c ⟨0, r⟩ := rfl
theorem sell_sum {fs : List Kct0.Fare} {c : Kct0.Card} {os : List (Nat × Nat)} (O : Offs c fs os) {ls : List Kct0.Leg} : ∀ (n s : Nat) (p : Kct0.Plan), ls.length - s ≤ n → s ≤ ls.length → (Kct0.plans fs c ls)[s]? = some (some p) →
    Kct0.sumOf ((Kct0.sell fs c p).map (·.paid)) = p.cost ∧ ((Kct0.sell fs c p).map (·.legs)).sum = ls.length - s ∧ ∀ t ∈ p.tickets, 0 < t.2
  | n, s, p, hn, hs, hp => by
    by_cases he : s = ls.length
    · subst he
      rw [plans_end] at hp
      cases hp
      exact ⟨rfl, by simp [Kct0.sell], fun t ht => by cases ht⟩
    · obtain ⟨k, i, pr, q, hk, hq, rfl, _, hpr⟩ := plan_step O (by omega) hp
      cases n with
      | zero => omega
      | succ n =>
        obtain ⟨h1, h2, h3⟩ := sell_sum O n (s + (k + 1)) q (by omega) hk hq
        rw [sell_cons, hpr]
        refine ⟨?_, ?_, fun t ht => ?_⟩
        · show pr + Kct0.sumOf ((Kct0.sell fs c q).map (·.paid)) = pr + q.cost
          rw [h1]
        · show ((k + 1) :: (Kct0.sell fs c q).map (·.legs)).sum = _
          rw [List.sum_cons, h2]
          omega
        · rcases List.mem_cons.mp ht with rfl | ht
          · exact Nat.succ_pos _
          · exact h3 t ht
/-! ### Ticket -/
def tickF (p : Nat × Kct0.Sold) : List (Str × V) := [(Str.ofString "fare", .int p.2.fare), (Str.ofString "start", .int p.1), (Str.ofString "leg_count", .int p.2.legs), (Str.ofString "paid", .int p.2.paid), (Str.ofString "given_back", .bl p.2.back)]
/-- tickets, each with the leg that it begins with -/
def withStart : Nat → List Kct0.Sold → List (Nat × Kct0.Sold)
  | _, [] => []
  | a, x :: l => (a, x) :: withStart (a + x.legs) l
def legsSum (l : List Kct0.Sold) : Nat := (l.map (·.legs)).sum
theorem withStart_len : ∀ (a : Nat) (l : List Kct0.Sold), (withStart a l).length = l.length
  | _, [] => rfl
  | a, x :: l => by show (withStart _ l).length + 1 = l.length + 1; rw [withStart_len _ l]
theorem withStart_snoc (x : Kct0.Sold) : ∀ (a : Nat) (l : List Kct0.Sold), withStart a (l ++ [x]) = withStart a l ++ [(a + legsSum l, x)]
  | a, [] => rfl
  | a, y :: l => by
    show (a, y) :: withStart (a + y.legs) (l ++ [x]) = (a, y) :: (withStart (a + y.legs) l ++ [(a + legsSum (y :: l), x)])
    rw [withStart_snoc x _ l]
    have e : legsSum (y :: l) = y.legs + legsSum l := by unfold legsSum; rw [List.map_cons, List.sum_cons]
    rw [e, Nat.add_assoc]
theorem legsSum_snoc (l : List Kct0.Sold) (x : Kct0.Sold) : legsSum (l ++ [x]) = legsSum l + x.legs := by
  unfold legsSum
  rw [List.map_append, List.sum_append]
  show _ + (x.legs + 0) = _
  omega
def TickAt (C : Addr) (H : Hp) (a : Addr) (p : Nat × Kct0.Sold) : Prop := ∃ dx, H a = some (.ins C dx (tickF p))
theorem TickAt.same {C : Addr} {H H' : Hp} {a : Addr} {l : Nat × Kct0.Sold} (s : Same H H') (h : TickAt C H a l) : TickAt C H' a l := let ⟨dx, e⟩ := h; ⟨dx, s _ _ e⟩
def TicksAt (C : Addr) (H : Hp) (tl : Addr) (as : List Addr) (xs : List Kct0.Sold) : Prop := H tl = some (.lst (as.map V.ref)) ∧ Objs (TickAt C H) as (withStart 0 xs)
theorem TicksAt.same {C : Addr} {H H' : Hp} {tl : Addr} {as : List Addr} {xs : List Kct0.Sold} (s : Same H H') (h : TicksAt C H tl as xs) : TicksAt C H' tl as xs := ⟨s _ _ h.1, h.2.imp fun _ _ => TickAt.same s⟩
/-- all of it new -/
structure TicksNew (C : Addr) (H H' : Hp) (tl : Addr) (as : List Addr) (xs : List Kct0.Sold) : Prop where
  at_ : TicksAt C H' tl as xs
  nd : as.Nodup
  new : H tl = none
  news : ∀ a ∈ as, H a = none
section
variable {P : Program} {w : World} {K : PySem.W.Frag} {mg : Str → Option Value} {base : Heap}
def fTicket (us : List V) (fs : List (Str × V)) : Prop := ∃ p : Nat × Kct0.Sold, us = [.int p.2.fare, .int p.1, .int p.2.legs, .int p.2.paid] ∧ p.2.back = false ∧ fs = tickF p
theorem scTicketI : FnScope ["self", "fare", "start", "leg_count", "paid"] ["self", "fare", "start", "leg_count", "paid"] (defScope sTicketI) := ⟨rfl, rfl, rfl, by decide +kernel, rfl, by decide +kernel, by decide +kernel⟩
theorem ok_ticketI {f C fI : Addr} {fd : FuncData} (F : Fun K "__init__" "Ticket.__init__" sTicketI f fd) (T : TC K mg "Ticket" C fI nTicket) : FnOk P w K mg base CX0 1 f fd ["self", "fare", "start", "leg_count", "paid"] (spI C 4 fTicket) := by
  refine F.ok scTicketI (fun vs H Q E h => ?_) (fun cdv A outer s H vs Q E hr h => ?_)
  · obtain ⟨p, dx, us, fs, rfl, e, _⟩ := h
    rw [List.length_cons, e]; rfl
  · obtain ⟨p, dx, us, fs, rfl, _, hp, ⟨l, rfl, hb, rfl⟩, k⟩ := h
    refine ⟨_, pss_cons (ps_fld (pv 0) (pv 1) rfl) (pss_cons (ps_fld (pv 0) (pv 2) rfl) (pss_cons (ps_fld (pv 0) (pv 3) rfl) (pss_cons (ps_fld (pv 0) (pv 4) rfl) (pss_one (ps_fld (pv 0) pe_bl rfl))))), ?_⟩
    refine fld_s pu_v pu_v hp T.cl (T.f 0) (by show 0 < 1000; decide) ?_
    refine fld_s pu_v pu_v upd_same T.cl (T.f 1) (by show 1 < 1000; decide) ?_
    rw [upd_upd]
    refine fld_s pu_v pu_v upd_same T.cl (T.f 2) (by show 2 < 1000; decide) ?_
    rw [upd_upd]
    refine fld_s pu_v pu_v upd_same T.cl (T.f 3) (by show 3 < 1000; decide) ?_
    rw [upd_upd]
    refine fld_1 pu_c pu_v upd_same T.cl (T.f 4) (by show 4 < 1000; decide) ?_
    rw [upd_upd]
    unfold tickF at k
    rw [hb] at k
    exact k
/-! ### tickets_of -/
/-- the plans as they stand in the list pvs, from place s on -/
def PlansFrom (K : PySem.W.Frag) (H : Hp) (fs : List Kct0.Fare) (c : Kct0.Card) (ls : List Kct0.Leg) (pvs : List V) (s : Nat) : Prop := pvs.length = ls.length + 1 ∧ ∀ (k : Nat) (q : Option Kct0.Plan), s ≤ k → (Kct0.plans fs c ls)[k]? = some q → ∃ v, pvs[k]? = some v ∧ PlanV K H v q
def spTicks (CT : Addr) (K : PySem.W.Frag) : Sp := fun vs H Q _ => ∃ (pl : Addr) (fs : List Kct0.Fare) (c : Kct0.Card) (os : List (Nat × Nat)) (ls : List Kct0.Leg) (pvs : List V) (p : Kct0.Plan), vs = [.ref pl] ∧ H pl = some (.lst pvs) ∧ Offs c fs os ∧ ls.length ≤ 16 ∧ PlansFrom K H fs c ls pvs 0 ∧
  (Kct0.plans fs c ls)[0]? = some (some p) ∧ ∀ H' tl as, Same H H' → TicksNew CT H H' tl as (Kct0.sell fs c p) → Q (.ref tl) H'
theorem scTicks : FnScope ["plans", "tickets", "start", "plan", "leg_count", "rest"] ["plans"] (defScope sTicks) := ⟨rfl, rfl, rfl, by decide +kernel, rfl, by decide +kernel, by decide +kernel⟩
theorem ok_ticks {f CT fT : Addr} {fd fdT : FuncData} (F : Fun K "tickets_of" "tickets_of" sTicks f fd) (T : TC K mg "Ticket" CT fT nTicket) (B : TB mg) (M : FnOk P w K mg base CX0 1 fT fdT ["self", "fare", "start", "leg_count", "paid"] (spI CT 4 fTicket)) (bT : Binds K fdT ["self", "fare", "start", "leg_count", "paid"] []) :
    FnOk P w K mg base CX0 3 f fd ["plans"] (spTicks CT K) := by
  refine F.ok scTicks (fun vs H Q E h => ?_) (fun cdv A outer s H vs Q E hr h => ?_)
  · obtain ⟨pl, fs, c, os, ls, pvs, p, rfl, _⟩ := h
    rfl
  · obtain ⟨pl, fs, c, os, ls, pvs, p, rfl, hpl, O, h16, hP, hp, k⟩ := h
    have nd := scTicks.nd
    refine ⟨_, pss_cons (ps_set (i := 1) nd rfl (Or.inl rfl) (pe_lst pa_nil)) (pss_cons (ps_set (i := 2) nd rfl (Or.inl rfl) pe_int)
      (pss_cons (ps_while PassesOwn.never (pt_cmpR op_lt (pv 2) (pe_op op_sub (pe_callB call_len_seq (by rfl) B.len PySem.boot_len (pa_cons (pv 0) pa_nil)) pe_int) (nomark _))
        (pss_cons (ps_set (i := 3) nd rfl (Or.inl rfl) (pe_ix ix_list (pv 0) (pv 2) (fun _ _ => rfl)))
        (pss_cons (ps_set (i := 4) nd rfl (Or.inl rfl) (pe_un un_neg (pe_ix ix_tup (pv 3) pe_int (fun _ _ => rfl))))
        (pss_cons (ps_set (i := 5) nd rfl (Or.inl rfl) (pe_ix ix_list (pv 0) (pe_op op_add (pv 2) (pv 4)) (fun _ _ => rfl)))
        (pss_cons (ps_expr (pe_bm PySem.F.plainAttrs_list PySem.F.slot_list_append PySem.F.type_list_append mt_append (pv 1) (pa_cons (pmake T M bT hr (pa_cons (pe_ix ix_tup (pv 3) pe_int (fun _ _ => rfl)) (pa_cons (pv 2) (pa_cons (pv 4) (pa_cons (pe_op op_sub (pe_ix ix_tup (pv 3) pe_int (fun _ _ => rfl)) (pe_ix ix_tup (pv 5) pe_int (fun _ _ => rfl))) pa_nil))))) pa_nil)))
        (pss_one (ps_aug (i := 2) nd rfl (Or.inl rfl) (pv 4) ip_add)))))))
      (pss_one (ps_ret (pv 1))))), ?_⟩
    refine asg_s (lst_in pa_0 (Nat.zero_le _) fun tl htl => ?_)
    refine set_s pu_c ?_
    refine while_pt (fun m σ H' => ∃ (s : Nat) (v3 v4 v5 : Option V) (q : Kct0.Plan) (as : List Addr) (dn : List Kct0.Sold), σ = [some (.ref pl), some (.ref tl), some (.int (s : Int)), v3, v4, v5] ∧ m = ls.length - s ∧ s ≤ ls.length ∧ Same H H' ∧ (Kct0.plans fs c ls)[s]? = some (some q) ∧
        TicksAt CT H' tl as dn ∧ as.Nodup ∧ (∀ a ∈ as, H a = none) ∧ dn ++ Kct0.sell fs c q = Kct0.sell fs c p ∧ dn.length ≤ s ∧ legsSum dn = s)
      ls.length ⟨0, none, none, none, p, [], [], rfl, rfl, Nat.zero_le _, same_new htl, hp, ⟨upd_same, Objs.nil⟩, List.nodup_nil, fun a ha => (by cases ha), rfl, Nat.le_refl _, rfl⟩ ?_
    rintro m σ H1 ⟨s, v3, v4, v5, q, as, dn, rfl, rfl, hs, s1, hq, ⟨htl1, OT⟩, hnd, hnew, hdn, hdl, hsum⟩
    have hpl1 := s1 _ _ hpl
    refine ⟨_, pt_of (pu_0 pu_v (pu_0 (pu_len (pa_1 pu_v pa_0) (SqL.of hpl1)) pu_c)), fun hb N hN => ?_, fun hb => ?_⟩
    · have hlt : s < ls.length := by
        have := of_decide_eq_true (show decide ((s : Int) < (pvs.length : Int) - 1) = true from hb)
        rw [hP.1] at this
        omega
      obtain ⟨kk, i, pr, q2, hk, hq2, rfl, hi, hpr⟩ := plan_step O hlt hq
      obtain ⟨v, hv, hPv⟩ := hP.2 s _ (Nat.zero_le _) hq
      obtain ⟨t1, rfl, ht1⟩ := hPv
      obtain ⟨v', hv', hPv'⟩ := hP.2 (s + (kk + 1)) _ (Nat.zero_le _) hq2
      obtain ⟨t2, rfl, ht2⟩ := hPv'
      have ht1' := sqT_same s1 ht1
      have ht2' := sqT_same s1 ht2
      have c0 : ((tup4 q2).map V.int)[0]? = some (.int (q2.cost : Int)) := by rw [List.getElem?_map, (tup4_cost q2).1]; rfl
      refine set_s (pu_ixL pu_v pu_v (SqL.of hpl1) (at_v hv rfl)) ?_
      refine set_s (pu_U (pu_ixT pu_v pu_c ht1' rfl)) ?_
      refine set_s (pu_ixL pu_v (pu_0 pu_v pu_v) (SqL.of hpl1) (at_v hv' (by omega))) ?_
      refine app_ofs pu_v htl1 ?_
      refine pu_makeP (us := [.int (i : Int), .int (s : Int), .int ((kk + 1 : Nat) : Int), .int (pr : Int)]) (fs := tickF (s, ⟨i, kk + 1, pr, false⟩)) (fun Q' q' => pa_1 (pu_ixT pu_v pu_c ht1' rfl) (pa_1 pu_v (pa_1 pu_v (pa_1 (pu_0 (pu_ixT pu_v pu_c ht1' rfl) (pu_ixT pu_v pu_c ht2' (at_v (j := 0) c0 rfl))) pa_0))) _ ?_) rfl ⟨(s, ⟨i, kk + 1, pr, false⟩), rfl, rfl, rfl⟩ fun x dx nx ndx nex => ?_
      · have e1 : - -((kk + 1 : Nat) : Int) = ((kk + 1 : Nat) : Int) := by omega
        have e2 : ((pr + q2.cost : Nat) : Int) - (q2.cost : Int) = (pr : Int) := by omega
        rw [e1, e2]
        exact q'
      · have s2 : Same H1 (mkI H1 CT x dx (tickF (s, ⟨i, kk + 1, pr, false⟩))) := mkI_same nx ndx
        have hx2 : mkI H1 CT x dx (tickF (s, ⟨i, kk + 1, pr, false⟩)) x = some (.ins CT dx (tickF (s, ⟨i, kk + 1, pr, false⟩))) := mkI_at
        generalize mkI H1 CT x dx (tickF (s, ⟨i, kk + 1, pr, false⟩)) = H2 at s2 hx2
        have htl2 := s2 _ _ htl1
        have keep : ∀ (b : Addr) (y : Nat × Kct0.Sold), TickAt CT H2 b y → TickAt CT (upd H2 tl (.lst (as.map V.ref ++ [.ref x]))) b y := fun b y ⟨d, e⟩ => ⟨d, by
          rw [upd_ne (ne_of e htl2 (by intro z; cases z))]
          exact e⟩
        refine ⟨tl, _, _, rfl, rfl, htl2, lt_line (by rw [List.length_map, OT.len, withStart_len]; omega), ?_⟩
        refine ⟨_, rfl, _, rfl, _, _, rfl, rfl, hN (ls.length - (s + (kk + 1))) _ _ (by omega) ⟨s + (kk + 1), some (.ref t1), some (.int (- -((kk + 1 : Nat) : Int))), some (.ref t2), q2, as ++ [x], dn ++ [⟨i, kk + 1, pr, false⟩], ?_, rfl, hk, same_upd (s1.trans s2) htl, hq2, ⟨?_, ?ot⟩, ?_, ?_, ?_, ?_, ?_⟩⟩
        · have e : ((s : Int) + - -((kk + 1 : Nat) : Int)) = ((s + (kk + 1) : Nat) : Int) := by omega
          show [some (V.ref pl), some (V.ref tl), some (V.int ((s : Int) + - -((kk + 1 : Nat) : Int))), some (V.ref t1), some (V.int (- -((kk + 1 : Nat) : Int))), some (V.ref t2)] = _
          rw [e]
        · rw [upd_same, List.map_append]; rfl
        case ot =>
          rw [withStart_snoc, hsum, Nat.zero_add]
          exact (OT.imp fun b y h => keep b y (h.same s2)).snoc (keep x _ ⟨dx, hx2⟩)
        · rw [List.nodup_append]
          refine ⟨hnd, by simp, fun a ha b hb' => ?_⟩
          rw [List.mem_singleton.mp hb']
          intro q3
          obtain ⟨j, hj⟩ := List.mem_iff_getElem?.mp ha
          obtain ⟨y, _, d, e⟩ := OT.get' hj
          rw [q3, nx] at e
          cases e
        · intro a ha
          rcases List.mem_append.mp ha with z | z
          · exact hnew a z
          · rw [List.mem_singleton.mp z]
            exact s1.free nx
        · rw [← hdn, List.append_assoc]
          show _ = dn ++ (⟨i, kk + 1, Kct0.priceOf fs c (i, kk + 1), false⟩ :: Kct0.sell fs c q2)
          rw [hpr]
          rfl
        · rw [List.length_append]
          show dn.length + 1 ≤ _
          omega
        · rw [legsSum_snoc, hsum]
    · have he : s = ls.length := by
        have := of_decide_eq_false (show decide ((s : Int) < (pvs.length : Int) - 1) = false from hb)
        rw [hP.1] at this
        omega
      subst he
      rw [plans_end] at hq
      cases hq
      have e : dn = Kct0.sell fs c p := by
        rw [← hdn]
        show dn = dn ++ []
        rw [List.append_nil]
      rw [e] at OT
      exact ⟨_, rfl, k H1 tl as s1 ⟨⟨htl1, OT⟩, hnd, htl, hnew⟩⟩
end
end LF
end

section
set_option Elab.async false
set_option linter.all false
set_option maxRecDepth 100000
namespace LF
open PySem PySem.Spec PyProof.Rows L2
/-! ### a comprehension over a list of objects that changes nothing -/
theorem wipe_put {σ : St} {j : Nat} {v : Option V} : wipe ((wipe σ [j]).set j v) [j] = wipe σ [j] := by
  show (((σ.set j none).set j v).set j none) = σ.set j none
  rw [List.set_set, List.set_set]
theorem pt_yes {σ : St} {H : Hp} : Pt tYes σ H true := fun _ q => q
theorem zip_take {α β : Type} : ∀ {as : List α} {ys : List β} {i : Nat} {a : α} {y : β}, as[i]? = some a → ys[i]? = some y → (as.zip ys).take (i + 1) = (as.zip ys).take i ++ [(a, y)]
  | as, ys, i, a, y, h1, h2 => take_snoc (by rw [List.getElem?_zip_eq_some]; exact ⟨h1, h2⟩)
theorem flat_len {α : Type} {f : α → List V} (h : ∀ x, (f x).length ≤ 1) : ∀ l : List α, (l.flatMap f).length ≤ l.length
  | [] => Nat.le_refl _
  | a :: l => by
    rw [List.flatMap_cons, List.length_append, List.length_cons]
    have := h a
    have := flat_len h l
    omega
theorem lc_objs {α : Type} {K : PySem.W.Frag} {R : Addr → α → Prop} {as : List Addr} {ys : List α} {tl : TE} {tt : TT} {te : TE} {j : Nat} {σ : St} {H : Hp} {a : Addr} {Q : VK} (f : Addr × α → List V) (hf : ∀ x, (f x).length ≤ 1) (ha : Pu tl σ H (.ref a)) (hs : H a = some (.lst (as.map V.ref))) (O : Objs R as ys) (hz : ys.length ≤ 100000)
    (step : ∀ (i : Nat) (b : Addr) (y : α) (H' : Hp), as[i]? = some b → ys[i]? = some y → R b y → Same H H' → ∃ c, Pt tt ((wipe σ [j]).set j (some (.ref b))) H' c ∧ (c = true → ∃ v, Pu te ((wipe σ [j]).set j (some (.ref b))) H' v ∧ f (b, y) = [v]) ∧ (c = false → f (b, y) = []))
    (k : ∀ (D : Addr) (H' : Hp), H D = none → Same H H' → H' D = some (.lst ((as.zip ys).flatMap f)) → Q (.ref D) H') : tLc (iList K tl) (gName j) tt te [j] σ H Q := by
  refine lc_l ha (SqL.of hs) fun D hD => ?_
  refine lc_list (K := K) (a := a) (xs := as.map V.ref) (fun i H' => Same H H' ∧ H' D = some (.lst (((as.zip ys).take i).flatMap f))) ⟨same_new hD, upd_same⟩ (fun i H' _ p => SqL.of (p.1 _ _ hs)) ?_ ?_
  · rintro i x H1 hi ⟨s1, hD1⟩
    obtain ⟨b, hb, rfl⟩ := ref_at hi
    obtain ⟨y, hy, hR⟩ := O.get' hb
    obtain ⟨c, hc, h1, h2⟩ := step i b y H1 hb hy hR s1
    refine ⟨wipe_put, tst_s hc (fun e => ?_) (fun e => ?_)⟩
    · obtain ⟨v, hv, e2⟩ := h1 e
      refine hv _ ⟨_, hD1, lt_line ?_, same_upd s1 hD, ?_⟩
      · have h3 := flat_len hf ((as.zip ys).take i)
        have h4 : ((as.zip ys).take i).length ≤ ys.length := by
          rw [List.length_take, List.length_zip]
          omega
        omega
      · rw [upd_same, zip_take hb hy, List.flatMap_append, List.flatMap_cons, e2]
        rfl
    · refine ⟨s1, ?_⟩
      rw [zip_take hb hy, List.flatMap_append, List.flatMap_cons, h2 e]
      show _ = some (HO.lst (_ ++ ([] : List V)))
      rw [List.append_nil]
      exact hD1
  · rintro H1 ⟨s1, hD1⟩
    rw [List.length_map, List.take_of_length_le (by rw [List.length_zip]; omega)] at hD1
    exact k D H1 hD s1 hD1
theorem flat_one {α β : Type} {g : α → β} : ∀ l : List α, (l.flatMap fun x => [g x]) = l.map g
  | [] => rfl
  | a :: l => by rw [List.flatMap_cons, flat_one l]; rfl
theorem call_in {sp : Sp} {E : XK} {t : TA} {σ : St} {H : Hp} {Q : VK} {us : List V} (ha : Pa t σ H us) (h : sp us H Q E) : tCall sp [] E t σ H Q := ha _ (by rw [List.append_nil]; exact h)
theorem asg_1 {te : TE} {g : TG} {D : Ends} {σ : St} {H : Hp} (h : te σ H fun v H' => g v σ H' D.nx) : tAsg te g D σ H := h
theorem sub_in {to ti : TE} {t : TSet} {σ : St} {H : Hp} {N : St → Hp → Prop} {o i v : V} (ho : Pu to σ H o) (hi : Pu ti σ H i) (h : t o i v H fun H3 => N σ H3) : gSub to ti t v σ H N := ho _ (hi _ h)
theorem zip_snd {α β : Type} {g : β → List V} : ∀ {as : List α} {ys : List β}, as.length = ys.length → (as.zip ys).flatMap (fun p => g p.2) = ys.flatMap g
  | [], [], _ => rfl
  | a :: as, y :: ys, h => by
    rw [List.zip_cons_cons, List.flatMap_cons, List.flatMap_cons, zip_snd (by simpa using h)]
theorem withStart_snd : ∀ (a : Nat) (l : List Kct0.Sold), (withStart a l).map (·.2) = l
  | _, [] => rfl
  | a, x :: l => by show x :: (withStart _ l).map (·.2) = x :: l; rw [withStart_snd _ l]
theorem ws_flat {g : Kct0.Sold → List V} (l : List Kct0.Sold) (a : Nat) : (withStart a l).flatMap (fun p => g p.2) = l.flatMap g := by
  conv => rhs; rw [← withStart_snd a l]
  rw [List.flatMap_map]
section
variable {P : Program} {w : World} {K : PySem.W.Frag} {mg : Str → Option Value} {base : Heap}
/-! ### total_paid -/
def paidSum (xs : List Kct0.Sold) : Nat := Kct0.sumOf (xs.map (·.paid))
theorem sum_ints : ∀ l : List Nat, (l.map fun (n : Nat) => (n : Int)).sum = ((Kct0.sumOf l : Nat) : Int)
  | [] => rfl
  | a :: l => by
    rw [List.map_cons, List.sum_cons, sum_ints l]
    show (a : Int) + _ = ((a + Kct0.sumOf l : Nat) : Int)
    omega
def spTotal (CT : Addr) : Sp := fun vs H Q _ => ∃ (tl : Addr) (as : List Addr) (xs : List Kct0.Sold), vs = [.ref tl] ∧ TicksAt CT H tl as xs ∧ xs.length ≤ 100 ∧ ∀ H', Same H H' → Q (.int (paidSum xs : Nat)) H'
theorem scTotal : FnScope ["tickets", "ticket"] ["tickets"] (defScope sTotal) := ⟨rfl, rfl, rfl, by decide +kernel, rfl, by decide +kernel, by decide +kernel⟩
theorem cr_sumK {X : Cx} (hc : X.calm = true) (hK : X.K = K := by rfl) : CallR X (.builtin "sum") (rSum K) := by subst hK; exact cr_sum hc
theorem ok_total {f CT fT : Addr} {fd : FuncData} (F : Fun K "total_paid" "total_paid" sTotal f fd) (T : TC K mg "Ticket" CT fT nTicket) (B : TB mg) : FnOk P w K mg base CX0 1 f fd ["tickets"] (spTotal CT) := by
  refine F.ok scTotal (fun vs H Q E h => ?_) (fun cdv A outer s H vs Q E hr h => ?_)
  · obtain ⟨tl, as, xs, rfl, _⟩ := h
    rfl
  · obtain ⟨tl, as, xs, rfl, ⟨htl, O⟩, hx, k⟩ := h
    refine ⟨_, pss_one (ps_ret (pe_callB (cr_sumK rfl) (by rfl) B.sum PyProof.Rows.boot_sum (pa_cons (pe_lc (own := [("ticket", 1)]) rfl scTotal.nd (pi_list (pv 0)) (blkOk_by (by rfl))
      (fun _ _ _ _ _ => pg_name (i := 1) scTotal.nd rfl (Or.inl rfl)) (fun _ _ _ _ _ => pts_nil) (fun _ _ _ _ _ => pe_fldK (pv 1))) pa_nil))), ?_⟩
    refine ret_of (cb_1 ?_)
    refine lc_objs (fun p => [.int (p.2.2.paid : Int)]) (fun _ => Nat.le_refl _) pu_v htl O (by rw [withStart_len]; omega) (fun i b y H' hb hy hR s1 => ?_) fun D H' hD s1 hD1 => ?_
    · obtain ⟨dx, hp⟩ := hR
      exact ⟨true, pt_yes, fun _ => ⟨_, pu_fld pu_v (s1 _ _ hp) T.cl (T.f 3) rfl, rfl⟩, fun z => by cases z⟩
    · rw [zip_snd (g := fun p : Nat × Kct0.Sold => [V.int (p.2.paid : Int)]) O.len, ws_flat (g := fun x => [V.int (x.paid : Int)])] at hD1
      refine ⟨D, (xs.map (·.paid)).map fun (n : Nat) => (n : Int), rfl, SqL.of ?_, ?_⟩
      · rw [hD1, List.map_map, List.map_map, flat_one]
        rfl
      · rw [sum_ints]
        exact k H' s1
/-! ### cheapest -/
theorem flat_non {α : Type} : ∀ l : List α, (l.flatMap fun _ => [V.non]) = List.replicate l.length .non
  | [] => rfl
  | a :: l => by rw [List.flatMap_cons, flat_non l]; rfl
theorem offs_lt {c : Kct0.Card} {fs : List Kct0.Fare} {os : List (Nat × Nat)} (O : Offs c fs os) : ∀ (i : Nat) (o : Nat × Nat), os[i]? = some o → o.2 < fs.length := fun i o h => by
  obtain ⟨j, f, hf, _, e⟩ := mem_offs.mp ((O.perm.mem_iff).mp (List.mem_of_getElem? h))
  rw [e]
  show 0 + j < _
  have := (List.getElem?_eq_some_iff.mp hf).1
  omega
structure SellOk (fs : List Kct0.Fare) (c : Kct0.Card) (ls : List Kct0.Leg) (p : Kct0.Plan) : Prop where
  cost : paidSum (Kct0.sell fs c p) = p.cost
  legs : legsSum (Kct0.sell fs c p) = ls.length
  pos : ∀ t ∈ Kct0.sell fs c p, 0 < t.legs
def TicksV (CT : Addr) (H H' : Hp) (fs : List Kct0.Fare) (c : Kct0.Card) (ls : List Kct0.Leg) (v : V) : Option Kct0.Plan → Prop
  | none => v = .non
  | some p => ∃ tl as, v = .ref tl ∧ TicksNew CT H H' tl as (Kct0.sell fs c p) ∧ SellOk fs c ls p
def spCheap (CF CC CL CT : Addr) : Sp := fun vs H Q _ => ∃ (la ca ll : Addr) (fs : List Kct0.Fare) (c : Kct0.Card) (ls : List Kct0.Leg), vs = [.ref la, .ref ca, .ref ll] ∧ FaresAt CF H la fs ∧ CardAt CC H ca c ∧ c.off ≤ 100 ∧ FaresOk fs ∧ LegsAt CL H ll ls ∧ 1 ≤ ls.length ∧ ls.length ≤ 16 ∧
  ∀ H' v, Same H H' → TicksV CT H H' fs c ls v (Kct0.cheapest fs c ls) → Q v H'
theorem scCheap : FnScope ["fares", "card", "legs", "offers", "plans", "leg", "start"] ["fares", "card", "legs"] (defScope sCheap) := ⟨rfl, rfl, rfl, by decide +kernel, rfl, by decide +kernel, by decide +kernel⟩
theorem cheapest_at (fs : List Kct0.Fare) (c : Kct0.Card) (ls : List Kct0.Leg) : (Kct0.plans fs c ls)[0]? = some (Kct0.cheapest fs c ls) := by
  unfold Kct0.cheapest
  have := plans_len fs c ls
  cases e : Kct0.plans fs c ls with
  | nil => rw [e] at this; simp at this
  | cons p r => rfl
theorem sell_ok {fs : List Kct0.Fare} {c : Kct0.Card} {os : List (Nat × Nat)} (O : Offs c fs os) {ls : List Kct0.Leg} {p : Kct0.Plan} (h : (Kct0.plans fs c ls)[0]? = some (some p)) : SellOk fs c ls p := by
  obtain ⟨h1, h2, h3⟩ := sell_sum O ls.length 0 p (Nat.sub_le _ _) (Nat.zero_le _) h
  refine ⟨h1, by rw [legsSum, h2]; rfl, fun t ht => ?_⟩
  obtain ⟨u, hu, rfl⟩ := List.mem_map.mp ht
  exact h3 u hu
/-- a global that is the tuple of no legs left -/
structure NoLegs (K : PySem.W.Frag) (mg : Str → Option Value) (t0 : Addr) : Prop where
  mg0 : mg "NO_LEGS_LEFT" = some (.ref t0)
  tup : ∀ H : Hp, SqT K H t0 [.int 0, .int 0, .int 0, .int 0]
theorem ok_cheap {f CF CC CL CT f1 f2 f3 t0 : Addr} {fd fd1 fd2 fd3 : FuncData} (F : Fun K "cheapest" "cheapest" sCheap f fd) (B : TB mg) (N : NoLegs K mg t0)
    (L1 : FnT P w K mg base 2 "offers_of" ["fares", "card"] (spOffs CF CC K) f1 fd1) (L2 : FnT P w K mg base 3 "best_plan" ["fares", "offers", "legs", "start", "plans"] (spBPlan CF CL K) f2 fd2)
    (L3 : FnT P w K mg base 3 "tickets_of" ["plans"] (spTicks CT K) f3 fd3) : FnOk P w K mg base CX0 4 f fd ["fares", "card", "legs"] (spCheap CF CC CL CT) := by
  refine F.ok scCheap (fun vs H Q E h => ?_) (fun cdv A outer s H vs Q E hr h => ?_)
  · obtain ⟨la, ca, ll, fs, c, ls, rfl, _⟩ := h
    rfl
  · obtain ⟨la, ca, ll, fs, c, ls, rfl, hF, hC, hoff, hFo, hL, h1, h16, k⟩ := h
    have nd := scCheap.nd
    have hr2 : Room 2 _ := hr.mono (by decide)
    refine ⟨_, pss_cons (ps_set (i := 3) nd rfl (Or.inl rfl) (pcall L1 hr2 (pa_cons (pv 0) (pa_cons (pv 1) pa_nil))))
      (pss_cons (ps_setLc (i := 4) (own := [("leg", 5)]) rfl nd rfl rfl (by rfl) (pi_list (pv 2)) (blkOk_by (by rfl)) (fun _ _ _ _ _ => pg_name (i := 5) nd rfl (Or.inl rfl)) (fun _ _ _ _ _ => pts_nil) (fun _ _ _ _ _ => pe_non))
      (pss_cons (ps_expr (pe_bm PySem.F.plainAttrs_list PySem.F.slot_list_append PySem.F.type_list_append mt_append (pv 4) (pa_cons (pe_glob (v := .ref t0) rfl N.mg0 rfl) pa_nil)))
      (pss_cons (ps_for PassesOwn.never rfl (pi_range3 rfl B.range (pa_cons (pe_op op_sub (pe_callB call_len_seq (by rfl) B.len PySem.boot_len (pa_cons (pv 2) pa_nil)) pe_int) (pa_cons (pe_un un_neg pe_int) (pa_cons (pe_un un_neg pe_int) pa_nil)))) (pg_name (i := 6) nd rfl (Or.inl rfl))
        (pss_one (ps_asg (pcall L2 hr (pa_cons (pv 0) (pa_cons (pv 3) (pa_cons (pv 2) (pa_cons (pv 6) (pa_cons (pv 4) pa_nil)))))) (pg_sub (pv 4) (pv 6) set_list))))
      (pss_cons (ps_if (pt_cmp (pc_isN (pe_ix ix_list (pv 4) pe_int (fun _ _ => rfl)))) (pss_one (ps_ret pe_non)) pss_nil)
      (pss_one (ps_ret (pcall L3 hr (pa_cons (pv 4) pa_nil)))))))), ?_⟩
    obtain ⟨las, hll, OL⟩ := hL
    refine asg_s (pa_1 pu_v (pa_1 pu_v pa_0) _ ⟨la, ca, fs, c, rfl, hF, hC, hoff, hFo, fun H1 lo os s1 hO1 O => ?_⟩)
    refine asg_s (lc_objs (fun _ => [.non]) (fun _ => Nat.le_refl _) pu_v (s1 _ _ hll) (OL.imp fun _ _ => LegAt.same s1) (by omega) (fun i b y H' hb hy hR s2 => ⟨true, pt_yes, fun _ => ⟨_, pu_c, rfl⟩, fun z => by cases z⟩) fun pl H2 npl s2 hpl2 => ?_)
    have e0 : ((las.zip ls).flatMap fun _ => [V.non]) = List.replicate ls.length .non := by
      rw [flat_non, List.length_zip, OL.len, Nat.min_self]
    rw [e0] at hpl2
    have npl0 : H pl = none := s1.free npl
    refine app_s pu_v pu_c hpl2 (lt_line (by rw [List.length_replicate]; omega)) ?_
    have s3 : Same H (upd H2 pl (.lst (List.replicate ls.length .non ++ [.ref t0]))) := same_upd (s1.trans s2) npl0
    have hO3 : OffsAt K (upd H2 pl (.lst (List.replicate ls.length .non ++ [.ref t0]))) lo os := OffsAt.same (same_upd s2 npl) hO1
    have hpl3 : upd H2 pl (.lst (List.replicate ls.length .non ++ [.ref t0])) pl = some (.lst (List.replicate ls.length .non ++ [.ref t0])) := upd_same
    generalize upd H2 pl (.lst (List.replicate ls.length .non ++ [.ref t0])) = H3 at s3 hO3 hpl3
    have hrg : RgC ((ls.length : Int) - 1) (-1) (-1) ls.length := by
      have := RgC.neg (i := (ls.length : Int) - 1) (j := -1) (by omega) (by omega) (by omega) (by omega)
      rw [show ((ls.length : Int) - 1 - -1).toNat = ls.length from by omega] at this
      exact this
    have hlen : ((las.map V.ref).length : Int) = (ls.length : Int) := by rw [List.length_map, OL.len]
    refine for_r3 (n := ls.length) (i := (ls.length : Int) - 1) (j := -1) (c := -1) (fun Q q => pa_1 (pu_0 (pu_len (pa_1 pu_v pa_0) (SqL.of (s3 _ _ hll))) pu_c) (pa_1 (pu_U pu_c) (pa_1 (pu_U pu_c) pa_0)) _ (by rw [hlen]; exact q)) hrg ?_
    refine for_rangeC (fun i σ H' => ∃ (v : Option V) (pvs : List V), σ = [some (.ref la), some (.ref ca), some (.ref ll), some (.ref lo), some (.ref pl), none, v] ∧ Same H H' ∧ OffsAt K H' lo os ∧ H' pl = some (.lst pvs) ∧ PlansFrom K H' fs c ls pvs (ls.length - i)) ⟨none, _, rfl, s3, hO3, hpl3, ?p0⟩ ?pt ?pe
    case p0 =>
      refine ⟨by rw [List.length_append, List.length_replicate]; rfl, fun kk q h2 h3 => ?_⟩
      have hlt := (List.getElem?_eq_some_iff.mp h3).1
      rw [plans_len] at hlt
      have e : kk = ls.length := by omega
      subst e
      rw [plans_end] at h3
      cases h3
      refine ⟨.ref t0, ?_, t0, rfl, N.tup _⟩
      rw [List.getElem?_append_right (by rw [List.length_replicate]; exact Nat.le_refl _), List.length_replicate, Nat.sub_self]
      rfl
    case pt =>
      rintro i σ H' hi ⟨v, pvs, rfl, s4, hO4, hpl4, hP4⟩
      obtain ⟨st, hst, hst2⟩ : ∃ st : Nat, ((ls.length : Int) - 1 + (i : Nat) * (-1)) = (st : Int) ∧ st + 1 + i = ls.length := ⟨ls.length - 1 - i, by omega, by omega⟩
      rw [hst]
      obtain ⟨x, l, hd⟩ : ∃ x l, ls.drop st = x :: l := by
        cases e : ls.drop st with
        | nil =>
          have := congrArg List.length e
          rw [List.length_drop] at this
          simp at this
          omega
        | cons x l => exact ⟨x, l, rfl⟩
      obtain ⟨hpa, hpb⟩ := plans_at (fs := fs) (c := c) hd
      have hll' := (drop_at hd).2.2
      refine asg_1 (call_in (pa_1 pu_v (pa_1 pu_v (pa_1 pu_v (pa_1 pu_v (pa_1 pu_v pa_0))))) ⟨la, lo, ll, pl, st, fs, os, ls, l, x, pvs, Kct0.plans fs c l, rfl, hF.same s4, hO4, offs_lt O, ⟨las, s4 _ _ hll, OL.imp fun _ _ => LegAt.same s4⟩, h16, hd, hpl4, plans_len fs c l, fun kk q hq => ?_, fun H5 v5 s5 hv5 => ?_⟩)
      · exact hP4.2 (st + 1 + kk) q (by omega) (by rw [hpa]; exact hq)
      · refine sub_in pu_v pu_v ⟨pl, pvs, (st : Int), st, rfl, rfl, s5 _ _ hpl4, ?_, ?_⟩
        · unfold ixN
          rw [if_pos (by omega), if_pos (by rw [hP4.1]; omega)]
          simp
        · have hpl5 := s5 _ _ hpl4
          have sT : ∀ (a : Addr) (xs : List V), SqT K H5 a xs → SqT K (upd H5 pl (.lst (pvs.set st v5))) a xs := fun a xs => sqT_lst hpl5
          have pT : ∀ (v : V) (q : Option Kct0.Plan), PlanV K H5 v q → PlanV K (upd H5 pl (.lst (pvs.set st v5))) v q := fun v q h => by
            cases q with
            | none => exact h
            | some p => obtain ⟨t, e, h'⟩ := h; exact ⟨t, e, sT _ _ h'⟩
          refine ⟨_, _, rfl, same_upd (s4.trans s5) npl0, ?_, upd_same, by rw [List.length_set]; exact hP4.1, fun kk q h2 h3 => ?_⟩
          · obtain ⟨oas, hlo, OO⟩ := OffsAt.same s5 hO4
            refine ⟨oas, ?_, OO.imp fun _ _ h => sT _ _ h⟩
            rw [upd_ne ?_]
            · exact hlo
            · intro e
              obtain ⟨oas1, hlo1, _⟩ := hO1
              rw [e, npl] at hlo1
              cases hlo1
          · by_cases e : kk = st
            · subst e
              rw [hpb os O] at h3
              have h3' := Option.some.inj h3
              rw [← h3']
              refine ⟨v5, List.getElem?_set_self (by rw [hP4.1]; omega), pT _ _ hv5⟩
            · obtain ⟨v6, h6, h7⟩ := hP4.2 kk q (by omega) h3
              exact ⟨v6, by rw [List.getElem?_set_ne (Ne.symm e)]; exact h6, pT _ _ (h7.same s5)⟩
    case pe =>
      rintro σ H' ⟨v, pvs, rfl, s4, hO4, hpl4, hP4⟩
      rw [Nat.sub_self] at hP4
      obtain ⟨v0, hv0, hp0⟩ := hP4.2 0 _ (Nat.zero_le _) (cheapest_at fs c ls)
      have hat : atI pvs 0 = some v0 := at_v (j := 0) hv0 rfl
      refine if_s0 (pt_of (pu_isN (pu_ixL pu_v pu_c (SqL.of hpl4) hat))) (fun hb => ?_) (fun hb => ?_)
      · have e := of_decide_eq_true hb
        subst e
        refine ret_1 pu_c (k H' .non s4 ?_)
        cases e : Kct0.cheapest fs c ls with
        | none => rfl
        | some p =>
          rw [e] at hp0
          obtain ⟨t, z, _⟩ := hp0
          cases z
      · have e := of_decide_eq_false hb
        cases e2 : Kct0.cheapest fs c ls with
        | none =>
          rw [e2] at hp0
          exact absurd hp0 e
        | some p =>
          have hc := cheapest_at fs c ls
          rw [e2] at hc k
          refine ret_of (pa_1 pu_v pa_0 _ ⟨pl, fs, c, os, ls, pvs, p, rfl, hpl4, O, h16, hP4, hc, fun H6 tl tas s6 TN => k H6 (.ref tl) (s4.trans s6) ⟨tl, tas, rfl, ?_, sell_ok O hc⟩⟩)
          exact ⟨TN.at_, TN.nd, s4.free TN.new, fun a ha => s4.free (TN.news a ha)⟩
end
end LF
end

section
set_option Elab.async false
set_option linter.all false
set_option maxRecDepth 100000
namespace LF
open PySem PySem.Spec PyProof.Rows L2
/-- where the classes stand -/
structure Ad where
  L : Addr
  F : Addr
  C : Addr
  T : Addr
  S : Addr
  Sa : Addr
  O : Addr
  R : Addr
abbrev nSale : List Str := ["legs", "card", "tickets", "ridden"]
abbrev sSaleI : Stmt := inClass (top 25) 0
abbrev sLeft : Stmt := inClass (top 25) 1
abbrev sNextLeg : Stmt := inClass (top 25) 2
abbrev sNextTick : Stmt := inClass (top 25) 3
abbrev sTouched : Stmt := inClass (top 25) 4
abbrev sMayGive : Stmt := inClass (top 25) 5
abbrev sToGive : Stmt := inClass (top 25) 6
abbrev sExch : Stmt := inClass (top 25) 7
def saleF (ll ca tl : Addr) (d : Nat) : List (Str × V) := [(Str.ofString "legs", .ref ll), (Str.ofString "card", .ref ca), (Str.ofString "tickets", .ref tl), (Str.ofString "ridden", .int d)]
structure SaleIs (A : Ad) (H : Hp) (sa dx ll ca tl : Addr) (as : List Addr) (t : Kct0.Trip) : Prop where
  at_ : H sa = some (.ins A.Sa dx (saleF ll ca tl t.done))
  legs : LegsAt A.L H ll t.legs
  card : CardAt A.C H ca t.card
  ticks : TicksAt A.T H tl as t.sold
theorem SaleIs.same {A : Ad} {H H' : Hp} {sa dx ll ca tl : Addr} {as : List Addr} {t : Kct0.Trip} (s : Same H H') (h : SaleIs A H sa dx ll ca tl as t) : SaleIs A H' sa dx ll ca tl as t := ⟨s _ _ h.at_, h.legs.same s, h.card.same s, h.ticks.same s⟩
structure TripOk (t : Kct0.Trip) : Prop where
  done : t.done ≤ t.legs.length
  few : t.legs.length ≤ 16
  sum : legsSum t.sold = t.legs.length
  pos : ∀ x ∈ t.sold, 0 < x.legs
  off : t.card.off ≤ 100
  one : 1 ≤ t.legs.length
theorem sold_le : ∀ l : List Kct0.Sold, (∀ x ∈ l, 0 < x.legs) → l.length ≤ legsSum l
  | [], _ => Nat.le_refl _
  | x :: l, h => by
    have h1 := sold_le l fun y hy => h y (List.mem_cons_of_mem _ hy)
    have h2 := h x (List.mem_cons_self ..)
    have e : legsSum (x :: l) = x.legs + legsSum l := by unfold legsSum; rw [List.map_cons, List.sum_cons]
    rw [e, List.length_cons]
    omega
theorem TripOk.sold {t : Kct0.Trip} (h : TripOk t) : t.sold.length ≤ 16 := by
  have := sold_le t.sold h.pos
  have := h.sum
  have := h.few
  omega
theorem meth_in {C : Addr} {m : Str} {sp : Sp} {E : XK} {ta : TE} {t : TA} {σ : St} {H : Hp} {Q : VK} {us : List V} {a dx : Addr} {fs : List (Str × V)} (ho : Pu ta σ H (.ref a)) (hp : H a = some (.ins C dx fs)) (hn : fs.lookup m = none) (ha : Pa t σ H us) (h : sp (.ref a :: us) H Q E) :
    tMeth C m sp [] E ta t σ H Q := ho _ ⟨a, dx, fs, rfl, hp, hn, ha _ (by rw [List.append_nil]; exact h)⟩
theorem cls_sum (x : Kct0.Sold) (l : List Kct0.Sold) : legsSum (x :: l) = x.legs + legsSum l := by unfold legsSum; rw [List.map_cons, List.sum_cons]
theorem dec_le_nat {a b : Nat} : decide ((a : Int) ≤ (b : Int)) = decide (a ≤ b) := by rw [Bool.eq_iff_iff, decide_eq_true_iff, decide_eq_true_iff]; omega
theorem dec_lt_nat {a b : Nat} : decide ((a : Int) < (b : Int)) = decide (a < b) := by rw [Bool.eq_iff_iff, decide_eq_true_iff, decide_eq_true_iff]; omega
theorem ws_lt : ∀ (l : List Kct0.Sold) (a i p : Nat) (x : Kct0.Sold), (∀ y ∈ l, 0 < y.legs) → (withStart a l)[i]? = some (p, x) → p < a + legsSum l
  | [], a, i, p, x, _, h => by simp [withStart] at h
  | y :: l, a, 0, p, x, hp, h => by
    have e : (a, y) = (p, x) := Option.some.inj h
    have h1 : a = p := congrArg Prod.fst e
    have h2 := hp y (List.mem_cons_self ..)
    rw [cls_sum]
    omega
  | y :: l, a, i + 1, p, x, hp, h => by
    have := ws_lt l (a + y.legs) i p x (fun z hz => hp z (List.mem_cons_of_mem _ hz)) h
    rw [cls_sum]
    omega
/-! ### the ticket of the next leg -/
def begF (k : Nat) (p : Addr × (Nat × Kct0.Sold)) : List V := if p.2.1 ≤ k then [.ref p.1] else []
theorem begun_none {k : Nat} : ∀ (as : List Addr) (l : List Kct0.Sold) (a : Nat), k < a → (as.zip (withStart a l)).flatMap (begF k) = []
  | [], l, a, h => by rw [List.zip_nil_left]; rfl
  | b :: as, [], a, h => rfl
  | b :: as, x :: l, a, h => by
    show (((b, (a, x)) :: as.zip (withStart (a + x.legs) l))).flatMap (begF k) = []
    rw [List.flatMap_cons, begun_none as l (a + x.legs) (by omega)]
    show begF k (b, (a, x)) ++ [] = []
    rw [List.append_nil, begF, if_neg (by show ¬ a ≤ k; omega)]
theorem begun_last {k : Nat} : ∀ (as : List Addr) (l : List Kct0.Sold) (a : Nat), as.length = l.length → (∀ x ∈ l, 0 < x.legs) → a ≤ k → k < a + legsSum l →
    ∃ (i : Nat) (b : Addr) (p : Nat) (x : Kct0.Sold) (init : List V), as[i]? = some b ∧ (withStart a l)[i]? = some (p, x) ∧ Kct0.ticketOf l (k - a) = some x ∧ (as.zip (withStart a l)).flatMap (begF k) = init ++ [.ref b]
  | as, [], a, _, _, h1, h2 => by
    rw [show legsSum [] = 0 from rfl] at h2
    omega
  | [], x :: l, a, h, _, _, _ => by simp at h
  | b :: as, x :: l, a, hl, hp, h1, h2 => by
    rw [cls_sum] at h2
    have hz : ((b :: as).zip (withStart a (x :: l))).flatMap (begF k) = [.ref b] ++ (as.zip (withStart (a + x.legs) l)).flatMap (begF k) := by
      show (((b, (a, x)) :: as.zip (withStart (a + x.legs) l))).flatMap (begF k) = _
      rw [List.flatMap_cons, begF, if_pos (show a ≤ k from h1)]
    by_cases hk : k < a + x.legs
    · refine ⟨0, b, a, x, [], rfl, rfl, ?_, ?_⟩
      · show (if k - a < x.legs then some x else _) = some x
        rw [if_pos (by omega)]
      · rw [hz, begun_none as l (a + x.legs) hk]
        rfl
    · obtain ⟨i, b', p, y, init, e1, e2, e3, e4⟩ := begun_last (k := k) as l (a + x.legs) (by simpa using hl) (fun y hy => hp y (List.mem_cons_of_mem _ hy)) (by omega) (by omega)
      refine ⟨i + 1, b', p, y, .ref b :: init, e1, e2, ?_, ?_⟩
      · show (if k - a < x.legs then some x else Kct0.ticketOf l (k - a - x.legs)) = some y
        rw [if_neg (by omega), show k - a - x.legs = k - (a + x.legs) from by omega]
        exact e3
      · rw [hz, e4]
        rfl
section
variable {P : Program} {w : World} {K : PySem.W.Frag} {mg : Str → Option Value} {base : Heap} {A : Ad}
def fSale (us : List V) (fs : List (Str × V)) : Prop := ∃ ll ca tl : Addr, us = [.ref ll, .ref ca, .ref tl] ∧ fs = saleF ll ca tl 0
theorem scSaleI : FnScope ["self", "legs", "card", "tickets"] ["self", "legs", "card", "tickets"] (defScope sSaleI) := ⟨rfl, rfl, rfl, by decide +kernel, rfl, by decide +kernel, by decide +kernel⟩
theorem ok_saleI {f C fI : Addr} {fd : FuncData} (F : Fun K "__init__" "Sale.__init__" sSaleI f fd) (T : TC K mg "Sale" C fI nSale) : FnOk P w K mg base CX0 1 f fd ["self", "legs", "card", "tickets"] (spI C 3 fSale) := by
  refine F.ok scSaleI (fun vs H Q E h => ?_) (fun cdv A outer s H vs Q E hr h => ?_)
  · obtain ⟨p, dx, us, fs, rfl, e, _⟩ := h
    rw [List.length_cons, e]; rfl
  · obtain ⟨p, dx, us, fs, rfl, _, hp, ⟨ll, ca, tl, rfl, rfl⟩, k⟩ := h
    refine ⟨_, pss_cons (ps_fld (pv 0) (pv 1) rfl) (pss_cons (ps_fld (pv 0) (pv 2) rfl) (pss_cons (ps_fld (pv 0) (pv 3) rfl) (pss_one (ps_fld (pv 0) pe_int rfl)))), ?_⟩
    refine fld_s pu_v pu_v hp T.cl (T.f 0) (by show 0 < 1000; decide) ?_
    refine fld_s pu_v pu_v upd_same T.cl (T.f 1) (by show 1 < 1000; decide) ?_
    rw [upd_upd]
    refine fld_s pu_v pu_v upd_same T.cl (T.f 2) (by show 2 < 1000; decide) ?_
    rw [upd_upd]
    refine fld_1 pu_c pu_v upd_same T.cl (T.f 3) (by show 3 < 1000; decide) ?_
    rw [upd_upd]
    exact k
/-! ### legs_left, next_leg -/
def spLeft (A : Ad) : Sp := fun vs H Q _ => ∃ (sa dx ll ca tl : Addr) (as : List Addr) (t : Kct0.Trip), vs = [.ref sa] ∧ SaleIs A H sa dx ll ca tl as t ∧ t.done ≤ t.legs.length ∧ Q (.int ((t.legs.length - t.done : Nat) : Int)) H
theorem scLeft : FnScope ["self"] ["self"] (defScope sLeft) := ⟨rfl, rfl, rfl, by decide +kernel, rfl, by decide +kernel, by decide +kernel⟩
theorem ok_left {f fI : Addr} {fd : FuncData} (F : Fun K "legs_left" "Sale.legs_left" sLeft f fd) (T : TC K mg "Sale" A.Sa fI nSale) (B : TB mg) : FnOk P w K mg base CX0 1 f fd ["self"] (spLeft A) := by
  refine F.ok scLeft (fun vs H Q E h => ?_) (fun cdv A outer s H vs Q E hr h => ?_)
  · obtain ⟨sa, dx, ll, ca, tl, as, t, rfl, _⟩ := h
    rfl
  · obtain ⟨sa, dx, ll, ca, tl, as, t, rfl, S, hd, k⟩ := h
    obtain ⟨las, hll, OL⟩ := S.legs
    refine ⟨_, pss_one (ps_ret (pe_op op_sub (pe_callB call_len_seq (by rfl) B.len PySem.boot_len (pa_cons (pe_fld (pv 0) rfl) pa_nil)) (pe_fld (pv 0) rfl))), ?_⟩
    refine ret_1 (pu_0 (pu_len (pa_1 (pu_fld pu_v S.at_ T.cl (T.f 0) rfl) pa_0) (SqL.of hll)) (pu_fld pu_v S.at_ T.cl (T.f 3) rfl)) ?_
    have e : ((las.map V.ref).length : Int) - (t.done : Int) = ((t.legs.length - t.done : Nat) : Int) := by
      rw [List.length_map, OL.len]
      omega
    rw [e]
    exact k
def spNextLeg (A : Ad) : Sp := fun vs H Q _ => ∃ (sa dx ll ca tl : Addr) (as : List Addr) (t : Kct0.Trip) (l : Kct0.Leg), vs = [.ref sa] ∧ SaleIs A H sa dx ll ca tl as t ∧ t.legs[t.done]? = some l ∧ ∀ b, LegAt A.L H b l → Q (.ref b) H
theorem scNextLeg : FnScope ["self"] ["self"] (defScope sNextLeg) := ⟨rfl, rfl, rfl, by decide +kernel, rfl, by decide +kernel, by decide +kernel⟩
theorem ok_nextLeg {f fI : Addr} {fd : FuncData} (F : Fun K "next_leg" "Sale.next_leg" sNextLeg f fd) (T : TC K mg "Sale" A.Sa fI nSale) : FnOk P w K mg base CX0 1 f fd ["self"] (spNextLeg A) := by
  refine F.ok scNextLeg (fun vs H Q E h => ?_) (fun cdv A outer s H vs Q E hr h => ?_)
  · obtain ⟨sa, dx, ll, ca, tl, as, t, l, rfl, _⟩ := h
    rfl
  · obtain ⟨sa, dx, ll, ca, tl, as, t, l, rfl, S, hl, k⟩ := h
    obtain ⟨las, hll, OL⟩ := S.legs
    obtain ⟨b, hb, hB⟩ := OL.get hl
    refine ⟨_, pss_one (ps_ret (pe_ix ix_list (pe_fld (pv 0) rfl) (pe_fld (pv 0) rfl) (fun _ _ => rfl))), ?_⟩
    exact ret_1 (pu_ixL (pu_fld pu_v S.at_ T.cl (T.f 0) rfl) (pu_fld pu_v S.at_ T.cl (T.f 3) rfl) (SqL.of hll) (at_v (at_ref hb) rfl)) (k b hB)
/-! ### next_ticket -/
def spNextTick (A : Ad) : Sp := fun vs H Q _ => ∃ (sa dx ll ca tl : Addr) (as : List Addr) (t : Kct0.Trip), vs = [.ref sa] ∧ SaleIs A H sa dx ll ca tl as t ∧ TripOk t ∧ t.done < t.legs.length ∧
  ∀ H' b p x, Same H H' → Kct0.ticketOf t.sold t.done = some x → TickAt A.T H' b (p, x) → Q (.ref b) H'
theorem scNextTick : FnScope ["self", "begun", "ticket"] ["self"] (defScope sNextTick) := ⟨rfl, rfl, rfl, by decide +kernel, rfl, by decide +kernel, by decide +kernel⟩
theorem ok_nextTick {f fI fT : Addr} {fd : FuncData} (F : Fun K "next_ticket" "Sale.next_ticket" sNextTick f fd) (T : TC K mg "Sale" A.Sa fI nSale) (TT : TC K mg "Ticket" A.T fT nTicket) : FnOk P w K mg base CX0 1 f fd ["self"] (spNextTick A) := by
  refine F.ok scNextTick (fun vs H Q E h => ?_) (fun cdv A outer s H vs Q E hr h => ?_)
  · obtain ⟨sa, dx, ll, ca, tl, as, t, rfl, _⟩ := h
    rfl
  · obtain ⟨sa, dx, ll, ca, tl, as, t, rfl, S, hok, hd, k⟩ := h
    have nd := scNextTick.nd
    refine ⟨_, pss_cons (ps_setLc (i := 1) (own := [("ticket", 2)]) rfl nd rfl rfl (by rfl) (pi_list (pe_fld (pv 0) rfl)) (blkOk_by (by rfl)) (fun _ _ _ _ _ => pg_name (i := 2) nd rfl (Or.inl rfl))
        (fun _ _ _ _ _ => pts_one (pt_cmpR op_le (pe_fldK (pv 2)) (pe_fldK (pv 0)) (nomark _))) (fun _ _ _ _ _ => pv 2))
      (pss_one (ps_ret (pe_ix ix_list (pv 1) (pe_un un_neg pe_int) (fun _ _ => rfl)))), ?_⟩
    have hl : as.length = t.sold.length := by rw [S.ticks.2.len, withStart_len]
    refine asg_s (lc_objs (begF t.done) (fun x => by unfold begF; split <;> simp) (pu_fld pu_v S.at_ T.cl (T.f 2) rfl) S.ticks.1 S.ticks.2 (by rw [withStart_len]; have := hok.sold; omega) (fun i b y H' hb hy hR s1 => ?_) fun D H' hD s1 hD1 => ?_)
    · obtain ⟨d, hp⟩ := hR
      refine ⟨decide (((y.1 : Nat) : Int) ≤ ((t.done : Nat) : Int)), pt_of (pu_0 (pu_fld pu_v (s1 _ _ hp) TT.cl (TT.f 1) rfl) (pu_fld pu_v (s1 _ _ S.at_) T.cl (T.f 3) rfl)), fun z => ⟨_, pu_v, ?_⟩, fun z => ?_⟩
      · have := of_decide_eq_true z
        rw [begF, if_pos (by show y.1 ≤ t.done; omega)]
      · have := of_decide_eq_false z
        rw [begF, if_neg (by show ¬ y.1 ≤ t.done; omega)]
    · obtain ⟨i, b, p, x, init, e1, e2, e3, e4⟩ := begun_last (k := t.done) as t.sold 0 hl hok.pos (Nat.zero_le _) (by rw [hok.sum]; omega)
      rw [e4] at hD1
      refine ret_1 (pu_ixL pu_v (pu_U pu_c) (SqL.of hD1) (atI_last init (.ref b))) ?_
      exact k H' b p x s1 e3 ((S.ticks.2.at_ i b (p, x) e1 e2).same s1)
/-! ### is_touched -/
def touched (t : Kct0.Trip) : Bool := decide (t.done ≠ 0) || t.sold.any Kct0.Sold.back
def spTouched (A : Ad) : Sp := fun vs H Q _ => ∃ (sa dx ll ca tl : Addr) (as : List Addr) (t : Kct0.Trip), vs = [.ref sa] ∧ SaleIs A H sa dx ll ca tl as t ∧ t.sold.length ≤ 100 ∧ ∀ H', Same H H' → Q (.bl (touched t)) H'
theorem scTouched : FnScope ["self", "ticket"] ["self"] (defScope sTouched) := ⟨rfl, rfl, rfl, by decide +kernel, rfl, by decide +kernel, by decide +kernel⟩
theorem cr_anyK {X : Cx} (hc : X.calm = true) (hK : X.K = K := by rfl) : CallR X (.builtin "any") (rAny K) := by subst hK; exact cr_any hc
theorem ok_touched {f fI fT : Addr} {fd : FuncData} (F : Fun K "is_touched" "Sale.is_touched" sTouched f fd) (T : TC K mg "Sale" A.Sa fI nSale) (TT : TC K mg "Ticket" A.T fT nTicket) (B : TB mg) : FnOk P w K mg base CX0 1 f fd ["self"] (spTouched A) := by
  refine F.ok scTouched (fun vs H Q E h => ?_) (fun cdv A outer s H vs Q E hr h => ?_)
  · obtain ⟨sa, dx, ll, ca, tl, as, t, rfl, _⟩ := h
    rfl
  · obtain ⟨sa, dx, ll, ca, tl, as, t, rfl, S, hsl, k⟩ := h
    have nd := scTouched.nd
    refine ⟨_, pss_one (ps_ret (pe_or (pe_cmpR op_gt (pe_fld (pv 0) rfl) pe_int (nomark _)) (pe_one (pe_callB (cr_anyK rfl) (by rfl) B.any PyProof.Rows.boot_any (pa_cons (pe_lc (own := [("ticket", 1)]) rfl nd (pi_list (pe_fld (pv 0) rfl)) (blkOk_by (by rfl))
      (fun _ _ _ _ _ => pg_name (i := 1) nd rfl (Or.inl rfl)) (fun _ _ _ _ _ => pts_nil) (fun _ _ _ _ _ => pe_fldK (pv 1))) pa_nil))))), ?_⟩
    by_cases hd : t.done = 0
    · have e : decide ((0 : Int) < ((t.done : Nat) : Int)) = false := by rw [hd]; rfl
      refine ret_of (pu_0 (pu_fld pu_v S.at_ T.cl (T.f 3) rfl) pu_c _ ⟨_, rfl, ?_⟩)
      show if decide ((0 : Int) < ((t.done : Nat) : Int)) = true then _ else _
      rw [e]
      refine iteF (cb_1 ?_)
      refine lc_objs (fun p => [.bl p.2.2.back]) (fun _ => Nat.le_refl _) (pu_fld pu_v S.at_ T.cl (T.f 2) rfl) S.ticks.1 S.ticks.2 (by rw [withStart_len]; omega) (fun i b y H' hb hy hR s1 => ?_) fun D H' hD s1 hD1 => ?_
      · obtain ⟨d, hp⟩ := hR
        exact ⟨true, pt_yes, fun _ => ⟨_, pu_fld pu_v (s1 _ _ hp) TT.cl (TT.f 4) rfl, rfl⟩, fun z => by cases z⟩
      · rw [zip_snd (g := fun p : Nat × Kct0.Sold => [V.bl p.2.back]) S.ticks.2.len, ws_flat (g := fun x => [V.bl x.back]), flat_one] at hD1
        refine ⟨D, t.sold.map (·.back), rfl, SqL.of (by rw [hD1, List.map_map]; rfl), ?_⟩
        have k' := k H' s1
        unfold touched at k'
        rw [hd] at k'
        rw [List.any_map]
        exact k'
    · have e : decide ((0 : Int) < ((t.done : Nat) : Int)) = true := by rw [decide_eq_true_iff]; omega
      refine ret_of (pu_0 (pu_fld pu_v S.at_ T.cl (T.f 3) rfl) pu_c _ ⟨_, rfl, ?_⟩)
      show if decide ((0 : Int) < ((t.done : Nat) : Int)) = true then _ else _
      rw [e]
      refine iteT ?_
      have k' := k H fun _ _ e => e
      unfold touched at k'
      rw [decide_eq_true hd, Bool.true_or] at k'
      exact k'
/-! ### may_give_back, tickets_to_give_back -/
def gives (t : Kct0.Trip) (n : Nat) (p : Nat × Kct0.Sold) : Bool := !p.2.back && decide (t.done ≤ p.1) && (t.legs[p.1]?).any (fun y => decide (n < y.dep))
def spMayGive (A : Ad) : Sp := fun vs H Q _ => ∃ (sa dx ll ca tl b : Addr) (as : List Addr) (t : Kct0.Trip) (n : Nat) (p : Nat × Kct0.Sold), vs = [.ref sa, .ref b, .int (n : Int)] ∧ SaleIs A H sa dx ll ca tl as t ∧ TickAt A.T H b p ∧ p.1 < t.legs.length ∧ Q (.bl (gives t n p)) H
theorem scMayGive : FnScope ["self", "ticket", "now"] ["self", "ticket", "now"] (defScope sMayGive) := ⟨rfl, rfl, rfl, by decide +kernel, rfl, by decide +kernel, by decide +kernel⟩
theorem ok_mayGive {f fI fT fL : Addr} {fd : FuncData} (F : Fun K "may_give_back" "Sale.may_give_back" sMayGive f fd) (T : TC K mg "Sale" A.Sa fI nSale) (TT : TC K mg "Ticket" A.T fT nTicket) (TL : TC K mg "Leg" A.L fL nLeg) : FnOk P w K mg base CX0 1 f fd ["self", "ticket", "now"] (spMayGive A) := by
  refine F.ok scMayGive (fun vs H Q E h => ?_) (fun cdv A outer s H vs Q E hr h => ?_)
  · obtain ⟨sa, dx, ll, ca, tl, b, as, t, n, p, rfl, _⟩ := h
    rfl
  · obtain ⟨sa, dx, ll, ca, tl, b, as, t, n, p, rfl, S, ⟨d, hb⟩, hlt, k⟩ := h
    obtain ⟨las, hll, OL⟩ := S.legs
    obtain ⟨l, hl⟩ : ∃ l, t.legs[p.1]? = some l := ⟨_, List.getElem?_eq_getElem hlt⟩
    obtain ⟨c, hc, dc, hC⟩ := OL.get hl
    refine ⟨_, pss_one (ps_ret (pe_and (pe_not (pe_fld (pv 1) rfl)) (pe_and (pe_cmpR op_le (pe_fld (pv 0) rfl) (pe_fld (pv 1) rfl) (nomark _)) (pe_one (pe_cmpR op_lt (pv 2) (pe_fld (pe_ix ix_list (pe_fld (pv 0) rfl) (pe_fld (pv 1) rfl) (fun _ _ => rfl)) rfl) (nomark _)))))), ?_⟩
    refine ret_1 (pu_and (pu_not (pu_fld pu_v hb TT.cl (TT.f 4) rfl)) fun _ => pu_and (pu_0 (pu_fld pu_v S.at_ T.cl (T.f 3) rfl) (pu_fld pu_v hb TT.cl (TT.f 1) rfl)) fun _ =>
      pu_0 pu_v (pu_fld (pu_ixL (pu_fld pu_v S.at_ T.cl (T.f 0) rfl) (pu_fld pu_v hb TT.cl (TT.f 1) rfl) (SqL.of hll) (at_v (at_ref hc) rfl)) hC TL.cl (TL.f 2) rfl)) ?_
    have e : (!p.2.back && (decide (((t.done : Nat) : Int) ≤ ((p.1 : Nat) : Int)) && decide (((n : Nat) : Int) < ((l.dep : Nat) : Int)))) = gives t n p := by
      unfold gives
      rw [hl]
      show _ = (!p.2.back && decide (t.done ≤ p.1) && decide (n < l.dep))
      rw [Bool.and_assoc, dec_le_nat, dec_lt_nat]
    rw [e]
    exact k
def toGive (t : Kct0.Trip) (n : Nat) (as : List Addr) : List V := (as.zip (withStart 0 t.sold)).flatMap fun p => if gives t n p.2 then [.ref p.1] else []
def spToGive (A : Ad) : Sp := fun vs H Q _ => ∃ (sa dx ll ca tl : Addr) (as : List Addr) (t : Kct0.Trip) (n : Nat), vs = [.ref sa, .int (n : Int)] ∧ SaleIs A H sa dx ll ca tl as t ∧ TripOk t ∧ ∀ H' D, H D = none → Same H H' → H' D = some (.lst (toGive t n as)) → Q (.ref D) H'
theorem scToGive : FnScope ["self", "now", "ticket"] ["self", "now"] (defScope sToGive) := ⟨rfl, rfl, rfl, by decide +kernel, rfl, by decide +kernel, by decide +kernel⟩
theorem ok_toGive {f f1 fI : Addr} {fd fd1 : FuncData} (F : Fun K "tickets_to_give_back" "Sale.tickets_to_give_back" sToGive f fd) (T : TC K mg "Sale" A.Sa fI nSale) (M : MeT P w K mg base 1 A.Sa "may_give_back" ["self", "ticket", "now"] (spMayGive A) f1 fd1) :
    FnOk P w K mg base CX0 2 f fd ["self", "now"] (spToGive A) := by
  refine F.ok scToGive (fun vs H Q E h => ?_) (fun cdv A outer s H vs Q E hr h => ?_)
  · obtain ⟨sa, dx, ll, ca, tl, as, t, n, rfl, _⟩ := h
    rfl
  · obtain ⟨sa, dx, ll, ca, tl, as, t, n, rfl, S, hok, k⟩ := h
    have nd := scToGive.nd
    refine ⟨_, pss_one (ps_ret (pe_lc (own := [("ticket", 2)]) rfl nd (pi_list (pe_fld (pv 0) rfl)) (blkOk_by (by rfl)) (fun _ _ _ _ _ => pg_name (i := 2) nd rfl (Or.inl rfl))
      (fun _ _ _ _ _ => pts_one (ptruK (pe_meth (pv 0) T.cl M.me M.ok hr M.b .nil pass0 (pa_cons (pv 2) (pa_cons (pv 1) pa_nil))))) (fun _ _ _ _ _ => pv 2))), ?_⟩
    refine ret_of (lc_objs (fun p => if gives t n p.2 then [.ref p.1] else []) (fun x => by show (if gives t n x.2 then [V.ref x.1] else []).length ≤ 1; split <;> simp) (pu_fld pu_v S.at_ T.cl (T.f 2) rfl) S.ticks.1 S.ticks.2 (by rw [withStart_len]; have := hok.sold; omega) (fun i b y H' hb hy hR s1 => ?_) fun D H' hD s1 hD1 => k H' D hD s1 hD1)
    have hlt := ws_lt t.sold 0 i y.1 y.2 hok.pos hy
    rw [Nat.zero_add, hok.sum] at hlt
    refine ⟨gives t n y, pt_bl (fun Q q => meth_in pu_v (s1 _ _ S.at_) (by rfl) (pa_1 pu_v (pa_1 pu_v pa_0)) ⟨sa, dx, ll, ca, tl, b, as, t, n, y, rfl, S.same s1, hR.same s1, hlt, q⟩), fun z => ⟨_, pu_v, ?_⟩, fun z => ?_⟩
    · show (if gives t n y then [V.ref b] else []) = _
      rw [z]
      rfl
    · show (if gives t n y then [V.ref b] else []) = _
      rw [z]
      rfl
/-! ### exchange -/
def spExch (A : Ad) : Sp := fun vs H Q _ => ∃ (sa dx ll ca tl ll' tl' : Addr) (d : Nat), vs = [.ref sa, .ref ll', .ref tl'] ∧ H sa = some (.ins A.Sa dx (saleF ll ca tl d)) ∧ Q .non (upd H sa (.ins A.Sa dx (saleF ll' ca tl' d)))
theorem scExch : FnScope ["self", "legs", "tickets"] ["self", "legs", "tickets"] (defScope sExch) := ⟨rfl, rfl, rfl, by decide +kernel, rfl, by decide +kernel, by decide +kernel⟩
theorem ok_exch {f fI : Addr} {fd : FuncData} (F : Fun K "exchange" "Sale.exchange" sExch f fd) (T : TC K mg "Sale" A.Sa fI nSale) : FnOk P w K mg base CX0 1 f fd ["self", "legs", "tickets"] (spExch A) := by
  refine F.ok scExch (fun vs H Q E h => ?_) (fun cdv A outer s H vs Q E hr h => ?_)
  · obtain ⟨sa, dx, ll, ca, tl, ll', tl', d, rfl, _⟩ := h
    rfl
  · obtain ⟨sa, dx, ll, ca, tl, ll', tl', d, rfl, hp, k⟩ := h
    refine ⟨_, pss_cons (ps_fld (pv 0) (pv 1) rfl) (pss_one (ps_fld (pv 0) (pv 2) rfl)), ?_⟩
    refine fld_s pu_v pu_v hp T.cl (T.f 0) (by show 4 < 1000; decide) ?_
    refine fld_1 pu_v pu_v upd_same T.cl (T.f 2) (by show 4 < 1000; decide) ?_
    rw [upd_upd]
    exact k
end
end LF
end

section
set_option Elab.async false
set_option linter.all false
set_option maxRecDepth 100000
namespace LF
open PySem PySem.Spec PyProof.Rows L2
open Kct0 (Abs Trip Sold)
/-! ### kinds of objects -/
def kd : HO → List Str
  | .ins _ _ fs => fs.map Prod.fst
  | _ => []
abbrev nOff : List Str := ["fee", "fares", "sales", "now", "taken", "given", "kept"]
def offF (s : Abs) (fl sl : Addr) : List (Str × V) := [(Str.ofString "fee", .int s.fee), (Str.ofString "fares", .ref fl), (Str.ofString "sales", .ref sl), (Str.ofString "now", .int s.now), (Str.ofString "taken", .int s.taken), (Str.ofString "given", .int s.given), (Str.ofString "kept", .int s.kept)]
/-- all that isn't of this kind is as it was -/
def Kp (H H' : Hp) (n : List Str) : Prop := ∀ b u, H b = some u → kd u ≠ n → H' b = some u
theorem kp_upd {H : Hp} {p : Addr} {u o : HO} (h : H p = some u) : Kp H (upd H p o) (kd u) := fun b v e hk => by
  rw [upd_ne ?_]
  · exact e
  · intro q
    rw [q, h] at e
    exact hk (congrArg kd (Option.some.inj e).symm)
theorem dom_upd {H : Hp} {p : Addr} {o : HO} {b : Addr} (h : upd H p o b = none) : H b = none := by
  by_cases q : b = p
  · rw [q, upd_same] at h; cases h
  · rw [upd_ne q] at h; exact h
theorem n_leg {n : List Str} {C dx : Addr} {l : Kct0.Leg} (h : nLeg ≠ n) : kd (.ins C dx (legF l)) ≠ n := h
theorem n_fare {n : List Str} {C dx : Addr} {l : Kct0.Fare} (h : nFare ≠ n) : kd (.ins C dx (fareF l)) ≠ n := h
theorem n_card {n : List Str} {C dx : Addr} {l : Kct0.Card} (h : nCard ≠ n) : kd (.ins C dx (cardF l)) ≠ n := h
theorem n_tick {n : List Str} {C dx : Addr} {l : Nat × Sold} (h : nTicket ≠ n) : kd (.ins C dx (tickF l)) ≠ n := h
theorem n_sale {n : List Str} {C dx ll ca tl : Addr} {d : Nat} (h : nSale ≠ n) : kd (.ins C dx (saleF ll ca tl d)) ≠ n := h
theorem n_lst {n : List Str} {xs : List V} (h : [] ≠ n) : kd (.lst xs) ≠ n := h
theorem n_off {n : List Str} {C dx fl sl : Addr} {s : Abs} (h : nOff ≠ n) : kd (.ins C dx (offF s fl sl)) ≠ n := h
section
variable {H H' : Hp} {n : List Str} {C a : Addr}
theorem LegAt.kp {l : Kct0.Leg} (k : Kp H H' n) (h : LegAt C H a l) (h2 : nLeg ≠ n) : LegAt C H' a l := let ⟨dx, e⟩ := h; ⟨dx, k _ _ e (n_leg h2)⟩
theorem LegsAt.kp {l : List Kct0.Leg} (k : Kp H H' n) (h : LegsAt C H a l) (h1 : [] ≠ n) (h2 : nLeg ≠ n) : LegsAt C H' a l := let ⟨as, e, O⟩ := h; ⟨as, k _ _ e h1, O.imp fun _ _ q => q.kp k h2⟩
theorem CardAt.kp {l : Kct0.Card} (k : Kp H H' n) (h : CardAt C H a l) (h2 : nCard ≠ n) : CardAt C H' a l := let ⟨dx, e⟩ := h; ⟨dx, k _ _ e (n_card h2)⟩
theorem FareAt.kp {l : Kct0.Fare} (k : Kp H H' n) (h : FareAt C H a l) (h2 : nFare ≠ n) : FareAt C H' a l := let ⟨dx, e⟩ := h; ⟨dx, k _ _ e (n_fare h2)⟩
theorem TicksAt.kp {as : List Addr} {xs : List Sold} (k : Kp H H' n) (h : TicksAt C H a as xs) (h1 : [] ≠ n) (h2 : nTicket ≠ n) : TicksAt C H' a as xs := ⟨k _ _ h.1 h1, h.2.imp fun _ _ ⟨dx, e⟩ => ⟨dx, k _ _ e (n_tick h2)⟩⟩
theorem LegsAt.ne {la q : Addr} {l : List Kct0.Leg} (k : ∀ b u, H b = some u → b ≠ q → H' b = some u) (hq : ∃ xs, H q = some (.lst xs)) (h : LegsAt C H la l) (hn : la ≠ q) : LegsAt C H' la l := let ⟨as, e, O⟩ := h; let ⟨xs, eq⟩ := hq; ⟨as, k _ _ e hn, O.imp fun _ _ ⟨dx, e'⟩ => ⟨dx, k _ _ e' (ne_of e' eq (by intro z; cases z))⟩⟩
theorem TicksAt.ne {tl q : Addr} {as : List Addr} {xs : List Sold} (k : ∀ b u, H b = some u → b ≠ q → H' b = some u) (hq : ∃ xs, H q = some (.lst xs)) (h : TicksAt C H tl as xs) (hn : tl ≠ q) : TicksAt C H' tl as xs := let ⟨xs, eq⟩ := hq; ⟨k _ _ h.1 hn, h.2.imp fun _ _ ⟨dx, e'⟩ => ⟨dx, k _ _ e' (ne_of e' eq (by intro z; cases z))⟩⟩
end
/-! ### the office -/
structure OffD where
  fl : Addr
  sl : Addr
  fas : List Addr
  sas : List Addr
  tas : List (List Addr)
def OffD.ms (D : OffD) (o b : Addr) : Prop := b = o ∨ b = D.fl ∨ b = D.sl ∨ b ∈ D.fas ∨ b ∈ D.sas ∨ ∃ l ∈ D.tas, b ∈ l
structure Apart (D : OffD) (ll tl : Addr) : Prop where
  l1 : ll ≠ D.fl
  l2 : ll ≠ D.sl
  t1 : tl ≠ D.fl
  t2 : tl ≠ D.sl
structure Off (A : Ad) (H : Hp) (o : Addr) (D : OffD) (s : Abs) : Prop where
  at_ : ∃ dx, H o = some (.ins A.O dx (offF s D.fl D.sl))
  fl_ : H D.fl = some (.lst (D.fas.map V.ref))
  sl_ : H D.sl = some (.lst (D.sas.map V.ref))
  ne : D.fl ≠ D.sl
  fares : Objs (FareAt A.F H) D.fas s.fares
  fnd : D.fas.Nodup
  slen : D.sas.length = s.trips.length
  tlen : D.tas.length = s.trips.length
  sales : ∀ (i : Nat) (sa : Addr) (as : List Addr) (t : Trip), D.sas[i]? = some sa → D.tas[i]? = some as → s.trips[i]? = some t → ∃ dx ll ca tl, SaleIs A H sa dx ll ca tl as t ∧ Apart D ll tl
  snd : D.sas.Nodup
  tnd : ∀ (i : Nat) (as : List Addr), D.tas[i]? = some as → as.Nodup
  tdis : ∀ (i j : Nat) (as bs : List Addr) (b : Addr), D.tas[i]? = some as → D.tas[j]? = some bs → b ∈ as → b ∈ bs → i = j
  fok : FaresOk s.fares
  tok : ∀ (i : Nat) (t : Trip), s.trips[i]? = some t → TripOk t
  few : s.trips.length ≤ 64
structure Out (H H' : Hp) (o : Addr) (D D' : OffD) : Prop where
  keep : ∀ b u, H b = some u → ¬ D.ms o b → H' b = some u
  new : ∀ b, D'.ms o b → D.ms o b ∨ H b = none
  dom : ∀ b, H' b = none → H b = none
theorem Out.same {H H' : Hp} {o : Addr} {D : OffD} (s : Same H H') : Out H H' o D D := ⟨fun b u e _ => s b u e, fun b h => .inl h, fun b h => s.free h⟩
theorem Out.trans {H H1 H2 : Hp} {o : Addr} {D D1 D2 : OffD} (a : Out H H1 o D D1) (b : Out H1 H2 o D1 D2) : Out H H2 o D D2 := by
  refine ⟨fun c u e hn => b.keep c u (a.keep c u e hn) fun q => ?_, fun c hc => ?_, fun c h => a.dom c (b.dom c h)⟩
  · rcases a.new c q with z | z
    · exact hn z
    · rw [z] at e; cases e
  · rcases b.new c hc with z | z
    · exact a.new c z
    · exact .inr (a.dom c z)
theorem Off.same {A : Ad} {H H' : Hp} {o : Addr} {D : OffD} {s : Abs} (e : Same H H') (h : Off A H o D s) : Off A H' o D s :=
  { h with at_ := let ⟨dx, q⟩ := h.at_; ⟨dx, e _ _ q⟩, fl_ := e _ _ h.fl_, sl_ := e _ _ h.sl_, fares := h.fares.imp fun _ _ => FareAt.same e, sales := fun i sa as t h1 h2 h3 => let ⟨dx, ll, ca, tl, S, ap⟩ := h.sales i sa as t h1 h2 h3; ⟨dx, ll, ca, tl, S.same e, ap⟩ }
theorem Off.faresAt {A : Ad} {H : Hp} {o : Addr} {D : OffD} {s : Abs} (h : Off A H o D s) : FaresAt A.F H D.fl s.fares := ⟨D.fas, h.fl_, h.fares⟩
theorem Off.sale {A : Ad} {H : Hp} {o : Addr} {D : OffD} {s : Abs} (h : Off A H o D s) {k : Nat} {t : Trip} (ht : s.trips[k]? = some t) : ∃ sa as dx ll ca tl, D.sas[k]? = some sa ∧ D.tas[k]? = some as ∧ SaleIs A H sa dx ll ca tl as t ∧ Apart D ll tl := by
  have hk := (List.getElem?_eq_some_iff.mp ht).1
  have e1 : D.sas[k]? = some (D.sas[k]'(by rw [h.slen]; exact hk)) := List.getElem?_eq_getElem _
  have e2 : D.tas[k]? = some (D.tas[k]'(by rw [h.tlen]; exact hk)) := List.getElem?_eq_getElem _
  obtain ⟨dx, ll, ca, tl, S, ap⟩ := h.sales k _ _ t e1 e2 ht
  exact ⟨_, _, dx, ll, ca, tl, e1, e2, S, ap⟩
theorem Off.dom {A : Ad} {H : Hp} {o : Addr} {D : OffD} {s : Abs} (h : Off A H o D s) (b : Addr) (hb : D.ms o b) : H b ≠ none := by
  intro q
  rcases hb with z | z | z | z | z | ⟨l, hl, z⟩
  · obtain ⟨dx, e⟩ := h.at_
    rw [← z, q] at e; cases e
  · have e := h.fl_
    rw [← z, q] at e; cases e
  · have e := h.sl_
    rw [← z, q] at e; cases e
  · obtain ⟨j, hj⟩ := List.mem_iff_getElem?.mp z
    obtain ⟨y, _, d, e⟩ := h.fares.get' hj
    rw [q] at e; cases e
  · obtain ⟨j, hj⟩ := List.mem_iff_getElem?.mp z
    have hjl : j < s.trips.length := by rw [← h.slen]; exact (List.getElem?_eq_some_iff.mp hj).1
    obtain ⟨sa, as2, dx2, ll2, ca2, tl2, e1, e2, S2, _⟩ := h.sale (List.getElem?_eq_getElem hjl)
    rw [hj] at e1
    cases e1
    have e := S2.at_
    rw [q] at e; cases e
  · obtain ⟨i, hi⟩ := List.mem_iff_getElem?.mp hl
    have hil : i < s.trips.length := by rw [← h.tlen]; exact (List.getElem?_eq_some_iff.mp hi).1
    obtain ⟨sa, as2, dx2, ll2, ca2, tl2, e1, e2, S2, _⟩ := h.sale (List.getElem?_eq_getElem hil)
    rw [hi] at e2
    cases e2
    obtain ⟨j, hj⟩ := List.mem_iff_getElem?.mp z
    obtain ⟨y, _, d, e⟩ := S2.ticks.2.get' hj
    rw [q] at e; cases e
section
variable {A : Ad} {H H0 : Hp} {o : Addr} {D : OffD} {s s' : Abs}
/-- the office's own numbers -/
theorem Off.setO (h : Off A H o D s) {dx : Addr} (hd : H o = some (.ins A.O dx (offF s D.fl D.sl))) (hf : s'.fares = s.fares) (ht : s'.trips = s.trips) : Off A (upd H o (.ins A.O dx (offF s' D.fl D.sl))) o D s' ∧ Out H (upd H o (.ins A.O dx (offF s' D.fl D.sl))) o D D := by
  have k : Kp H (upd H o (.ins A.O dx (offF s' D.fl D.sl))) nOff := kp_upd hd
  refine ⟨{ h with at_ := ⟨dx, upd_same⟩, fl_ := k _ _ h.fl_ (n_lst (by decide +kernel)), sl_ := k _ _ h.sl_ (n_lst (by decide +kernel)), fares := ?_, slen := by rw [ht]; exact h.slen, tlen := by rw [ht]; exact h.tlen, sales := ?_, fok := by rw [hf]; exact h.fok, tok := by rw [ht]; exact h.tok, few := by rw [ht]; exact h.few }, ?_⟩
  · rw [hf]
    exact h.fares.imp fun _ _ q => q.kp k (by decide +kernel)
  · rw [ht]
    intro i sa as t h1 h2 h3
    obtain ⟨dx', ll, ca, tl, S, ap⟩ := h.sales i sa as t h1 h2 h3
    exact ⟨dx', ll, ca, tl, ⟨k _ _ S.at_ (n_sale (by decide +kernel)), S.legs.kp k (by decide +kernel) (by decide +kernel), S.card.kp k (by decide +kernel), S.ticks.kp k (by decide +kernel) (by decide +kernel)⟩, ap⟩
  · exact ⟨fun b u e hn => by rw [upd_ne (fun q => hn (.inl q))]; exact e, fun b hb => .inl hb, fun b => dom_upd⟩
/-- one more fare -/
theorem Off.addFare (h : Off A H0 o D s) (sm : Same H0 H) {x : Addr} {f : Kct0.Fare} (nx : H0 x = none) (hx : FareAt A.F H x f) (hp : f.price ≤ 1000000) (hl : s.fares.length < 64) :
    Off A (upd H D.fl (.lst (D.fas.map V.ref ++ [.ref x]))) o { D with fas := D.fas ++ [x] } { s with fares := s.fares ++ [f] } ∧ Out H0 (upd H D.fl (.lst (D.fas.map V.ref ++ [.ref x]))) o D { D with fas := D.fas ++ [x] } := by
  have g := h.same sm
  have kn : ∀ b u, H b = some u → b ≠ D.fl → upd H D.fl (.lst (D.fas.map V.ref ++ [.ref x])) b = some u := fun b u e hb => by rw [upd_ne hb]; exact e
  have k : Kp H (upd H D.fl (.lst (D.fas.map V.ref ++ [.ref x]))) [] := kp_upd g.fl_
  obtain ⟨dx, hd⟩ := g.at_
  refine ⟨⟨⟨dx, k _ _ hd (n_off (by decide +kernel))⟩, ?_, kn _ _ g.sl_ (Ne.symm g.ne), g.ne, ?_, ?_, g.slen, g.tlen, ?_, g.snd, g.tnd, g.tdis, ?_, g.tok, g.few⟩, ?_⟩
  · show upd _ _ _ _ = some (HO.lst ((D.fas ++ [x]).map V.ref))
    rw [upd_same, List.map_append]
    rfl
  · exact (g.fares.imp fun _ _ q => q.kp k (by decide +kernel)).snoc (hx.kp k (by decide +kernel))
  · show (D.fas ++ [x]).Nodup
    rw [List.nodup_append]
    refine ⟨g.fnd, by simp, fun a ha b hb => ?_⟩
    rw [List.mem_singleton.mp hb]
    intro q
    obtain ⟨j, hj⟩ := List.mem_iff_getElem?.mp ha
    obtain ⟨y, _, d, e⟩ := h.fares.get' hj
    rw [q, nx] at e
    cases e
  · intro i sa as t h1 h2 h3
    obtain ⟨dx', ll, ca, tl, S, ap⟩ := g.sales i sa as t h1 h2 h3
    exact ⟨dx', ll, ca, tl, ⟨k _ _ S.at_ (n_sale (by decide +kernel)), S.legs.ne kn ⟨_, g.fl_⟩ ap.l1, S.card.kp k (by decide +kernel), S.ticks.ne kn ⟨_, g.fl_⟩ ap.t1⟩, ⟨ap.l1, ap.l2, ap.t1, ap.t2⟩⟩
  · refine ⟨by show (s.fares ++ [f]).length ≤ 64; rw [List.length_append]; show s.fares.length + 1 ≤ 64; omega, fun i g' hg => ?_⟩
    have hg' : (s.fares ++ [f])[i]? = some g' := hg
    by_cases hi : i < s.fares.length
    · rw [List.getElem?_append_left hi] at hg'
      exact g.fok.price i g' hg'
    · rw [List.getElem?_append_right (by omega)] at hg'
      cases e : i - s.fares.length with
      | zero =>
        rw [e] at hg'
        have e1 : f = g' := by simpa using hg'
        rw [← e1]; exact hp
      | succ m => rw [e] at hg'; simp at hg'
  · refine ⟨fun b u e hn => kn b u (sm _ _ e) fun q => hn (.inr (.inl q)), fun b hb => ?_, fun b hb => sm.free (dom_upd hb)⟩
    rcases hb with z | z | z | z | z | z
    · exact .inl (.inl z)
    · exact .inl (.inr (.inl z))
    · exact .inl (.inr (.inr (.inl z)))
    · rcases List.mem_append.mp z with z | z
      · exact .inl (.inr (.inr (.inr (.inl z))))
      · rw [List.mem_singleton.mp z]
        exact .inr nx
    · exact .inl (.inr (.inr (.inr (.inr (.inl z)))))
    · exact .inl (.inr (.inr (.inr (.inr (.inr z)))))
/-- one fare is another one -/
theorem Off.setFare (h : Off A H o D s) {i : Nat} {fa dx : Addr} {f' : Kct0.Fare} {f : Kct0.Fare} (hi : D.fas[i]? = some fa) (hd : H fa = some (.ins A.F dx (fareF f))) (hp : f'.price ≤ 1000000) :
    Off A (upd H fa (.ins A.F dx (fareF f'))) o D { s with fares := s.fares.set i f' } ∧ Out H (upd H fa (.ins A.F dx (fareF f'))) o D D := by
  have k : Kp H (upd H fa (.ins A.F dx (fareF f'))) nFare := kp_upd hd
  obtain ⟨d0, ho⟩ := h.at_
  refine ⟨⟨⟨d0, k _ _ ho (n_off (by decide +kernel))⟩, k _ _ h.fl_ (n_lst (by decide +kernel)), k _ _ h.sl_ (n_lst (by decide +kernel)), h.ne, ?_, h.fnd, h.slen, h.tlen, ?_, h.snd, h.tnd, h.tdis, ?_, h.tok, h.few⟩, ?_⟩
  · refine ⟨by show _ = (s.fares.set i f').length; rw [List.length_set]; exact h.fares.len, fun j a x hj hx => ?_⟩
    have hx' : (s.fares.set i f')[j]? = some x := hx
    by_cases e : j = i
    · subst e
      rw [hi] at hj
      cases hj
      have hlt : j < s.fares.length := by rw [← h.fares.len]; exact (List.getElem?_eq_some_iff.mp hi).1
      rw [List.getElem?_set_self hlt] at hx'
      cases hx'
      exact ⟨dx, upd_same⟩
    · rw [List.getElem?_set_ne (Ne.symm e)] at hx'
      obtain ⟨d, ha⟩ := h.fares.at_ j a x hj hx'
      refine ⟨d, ?_⟩
      rw [upd_ne ?_]
      · exact ha
      · intro q
        exact e (nd_ix h.fnd hj (by rw [q]; exact hi))
  · intro i sa as t h1 h2 h3
    obtain ⟨dx', ll, ca, tl, S, ap⟩ := h.sales i sa as t h1 h2 h3
    exact ⟨dx', ll, ca, tl, ⟨k _ _ S.at_ (n_sale (by decide +kernel)), S.legs.kp k (by decide +kernel) (by decide +kernel), S.card.kp k (by decide +kernel), S.ticks.kp k (by decide +kernel) (by decide +kernel)⟩, ap⟩
  · refine ⟨by show (s.fares.set i f').length ≤ 64; rw [List.length_set]; exact h.fok.few, fun j g hg => ?_⟩
    have hg' : (s.fares.set i f')[j]? = some g := hg
    by_cases e : j = i
    · subst e
      have hlt : j < s.fares.length := by rw [← h.fares.len]; exact (List.getElem?_eq_some_iff.mp hi).1
      rw [List.getElem?_set_self hlt] at hg'
      cases hg'
      exact hp
    · rw [List.getElem?_set_ne (Ne.symm e)] at hg'
      exact h.fok.price j g hg'
  · refine ⟨fun b u e hn => ?_, fun b hb => .inl hb, fun b => dom_upd⟩
    rw [upd_ne ?_]
    · exact e
    · intro q
      exact hn (.inr (.inr (.inr (.inl (by rw [q]; exact List.mem_of_getElem? hi)))))
/-- one more sale -/
theorem Off.addSale (hdom : ∀ b, D.ms o b → H0 b ≠ none) (ob : Out H0 H o D D) (g : Off A H o D s) {x dx ll ca tl : Addr} {as : List Addr} {t : Trip} (nx : H0 x = none) (S : SaleIs A H x dx ll ca tl as t) (ap : Apart D ll tl) (hnd : as.Nodup) (hnew : ∀ a ∈ as, H0 a = none) (hok : TripOk t) (hl : s.trips.length < 64) :
    Off A (upd H D.sl (.lst (D.sas.map V.ref ++ [.ref x]))) o { D with sas := D.sas ++ [x], tas := D.tas ++ [as] } { s with trips := s.trips ++ [t] } ∧ Out H0 (upd H D.sl (.lst (D.sas.map V.ref ++ [.ref x]))) o D { D with sas := D.sas ++ [x], tas := D.tas ++ [as] } := by
  have kn : ∀ b u, H b = some u → b ≠ D.sl → upd H D.sl (.lst (D.sas.map V.ref ++ [.ref x])) b = some u := fun b u e hb => by rw [upd_ne hb]; exact e
  have k : Kp H (upd H D.sl (.lst (D.sas.map V.ref ++ [.ref x]))) [] := kp_upd g.sl_
  obtain ⟨d0, hd⟩ := g.at_
  have old : ∀ (i : Nat) (as' : List Addr) (b : Addr), D.tas[i]? = some as' → b ∈ as' → H0 b ≠ none := fun i as' b h1 h2 => hdom b (.inr (.inr (.inr (.inr (.inr ⟨as', List.mem_of_getElem? h1, h2⟩)))))
  refine ⟨⟨⟨d0, k _ _ hd (n_off (by decide +kernel))⟩, kn _ _ g.fl_ g.ne, ?_, g.ne, g.fares.imp fun _ _ q => q.kp k (by decide +kernel), g.fnd, ?_, ?_, ?_, ?_, ?_, ?_, g.fok, ?_, ?_⟩, ?_⟩
  · show upd _ _ _ _ = some (HO.lst ((D.sas ++ [x]).map V.ref))
    rw [upd_same, List.map_append]
    rfl
  · show (D.sas ++ [x]).length = (s.trips ++ [t]).length
    rw [List.length_append, List.length_append, g.slen]; rfl
  · show (D.tas ++ [as]).length = (s.trips ++ [t]).length
    rw [List.length_append, List.length_append, g.tlen]; rfl
  · intro i sa as' t' h1 h2 h3
    have h1' : (D.sas ++ [x])[i]? = some sa := h1
    have h2' : (D.tas ++ [as])[i]? = some as' := h2
    have h3' : (s.trips ++ [t])[i]? = some t' := h3
    by_cases hi : i < s.trips.length
    · rw [List.getElem?_append_left (by rw [g.slen]; exact hi)] at h1'
      rw [List.getElem?_append_left (by rw [g.tlen]; exact hi)] at h2'
      rw [List.getElem?_append_left hi] at h3'
      obtain ⟨dx', ll', ca', tl', S', ap'⟩ := g.sales i sa as' t' h1' h2' h3'
      exact ⟨dx', ll', ca', tl', ⟨k _ _ S'.at_ (n_sale (by decide +kernel)), S'.legs.ne kn ⟨_, g.sl_⟩ ap'.l2, S'.card.kp k (by decide +kernel), S'.ticks.ne kn ⟨_, g.sl_⟩ ap'.t2⟩, ⟨ap'.l1, ap'.l2, ap'.t1, ap'.t2⟩⟩
    · rw [List.getElem?_append_right (by rw [g.slen]; omega), g.slen] at h1'
      rw [List.getElem?_append_right (by rw [g.tlen]; omega), g.tlen] at h2'
      rw [List.getElem?_append_right (by omega)] at h3'
      cases e : i - s.trips.length with
      | zero =>
        rw [e] at h1' h2' h3'
        have e1 : x = sa := by simpa using h1'
        have e2 : as = as' := by simpa using h2'
        have e3 : t = t' := by simpa using h3'
        subst e1 e2 e3
        exact ⟨dx, ll, ca, tl, ⟨k _ _ S.at_ (n_sale (by decide +kernel)), S.legs.ne kn ⟨_, g.sl_⟩ ap.l2, S.card.kp k (by decide +kernel), S.ticks.ne kn ⟨_, g.sl_⟩ ap.t2⟩, ⟨ap.l1, ap.l2, ap.t1, ap.t2⟩⟩
      | succ m => rw [e] at h1'; simp at h1'
  · show (D.sas ++ [x]).Nodup
    rw [List.nodup_append]
    refine ⟨g.snd, by simp, fun a ha b hb => ?_⟩
    rw [List.mem_singleton.mp hb]
    intro q
    exact hdom a (.inr (.inr (.inr (.inr (.inl ha))))) (by rw [q]; exact nx)
  · intro i as' h2
    have h2' : (D.tas ++ [as])[i]? = some as' := h2
    by_cases hi : i < D.tas.length
    · rw [List.getElem?_append_left hi] at h2'
      exact g.tnd i as' h2'
    · rw [List.getElem?_append_right (by omega)] at h2'
      cases e : i - D.tas.length with
      | zero =>
        rw [e] at h2'
        have e2 : as = as' := by simpa using h2'
        rw [← e2]; exact hnd
      | succ m => rw [e] at h2'; simp at h2'
  · intro i j bs cs b h2 h3 hb hc
    have cut : ∀ (i : Nat) (bs : List Addr), (D.tas ++ [as])[i]? = some bs → (i < D.tas.length ∧ D.tas[i]? = some bs) ∨ (i = D.tas.length ∧ bs = as) := fun i bs h2' => by
      by_cases hi : i < D.tas.length
      · rw [List.getElem?_append_left hi] at h2'
        exact .inl ⟨hi, h2'⟩
      · rw [List.getElem?_append_right (by omega)] at h2'
        cases e : i - D.tas.length with
        | zero =>
          rw [e] at h2'
          have e2 : as = bs := by simpa using h2'
          exact .inr ⟨by omega, e2.symm⟩
        | succ m => rw [e] at h2'; simp at h2'
    rcases cut i bs h2 with ⟨_, z1⟩ | ⟨z1, z2⟩
    · rcases cut j cs h3 with ⟨_, y1⟩ | ⟨y1, y2⟩
      · exact g.tdis i j bs cs b z1 y1 hb hc
      · subst y2
        exact absurd (hnew b hc) (old i bs b z1 hb)
    · rcases cut j cs h3 with ⟨_, y1⟩ | ⟨y1, y2⟩
      · subst z2
        exact absurd (hnew b hb) (old j cs b y1 hc)
      · omega
  · intro i t' h3
    have h3' : (s.trips ++ [t])[i]? = some t' := h3
    by_cases hi : i < s.trips.length
    · rw [List.getElem?_append_left hi] at h3'
      exact g.tok i t' h3'
    · rw [List.getElem?_append_right (by omega)] at h3'
      cases e : i - s.trips.length with
      | zero =>
        rw [e] at h3'
        have e3 : t = t' := by simpa using h3'
        rw [← e3]; exact hok
      | succ m => rw [e] at h3'; simp at h3'
  · show (s.trips ++ [t]).length ≤ 64
    rw [List.length_append]
    show s.trips.length + 1 ≤ 64
    omega
  · refine ⟨fun b u e hn => kn b u (ob.keep _ _ e hn) fun q => hn (.inr (.inr (.inl q))), fun b hb => ?_, fun b hb => ob.dom _ (dom_upd hb)⟩
    rcases hb with z | z | z | z | z | ⟨l, hl1, hl2⟩
    · exact .inl (.inl z)
    · exact .inl (.inr (.inl z))
    · exact .inl (.inr (.inr (.inl z)))
    · exact .inl (.inr (.inr (.inr (.inl z))))
    · rcases List.mem_append.mp z with z | z
      · exact .inl (.inr (.inr (.inr (.inr (.inl z)))))
      · rw [List.mem_singleton.mp z]
        exact .inr nx
    · rcases List.mem_append.mp hl1 with z | z
      · exact .inl (.inr (.inr (.inr (.inr (.inr ⟨l, z, hl2⟩)))))
      · rw [List.mem_singleton.mp z] at hl2
        exact .inr (hnew b hl2)
/-- one sale is another one, with tickets of its own or new ones -/
theorem Off.setSale (hdom : ∀ b, D.ms o b → H0 b ≠ none) (ob : Out H0 H o D D) (g : Off A H o D s) {k : Nat} {sa dx ll ca tl ll' tl' : Addr} {as as' : List Addr} {t t' : Trip} (hk : D.sas[k]? = some sa) (hk2 : D.tas[k]? = some as) (hkt : s.trips[k]? = some t) (hsa : H sa = some (.ins A.Sa dx (saleF ll ca tl t.done)))
    (hL : LegsAt A.L H ll' t'.legs) (hC : CardAt A.C H ca t'.card) (hT : TicksAt A.T H tl' as' t'.sold) (ap : Apart D ll' tl') (hnd : as'.Nodup) (hnew : ∀ a ∈ as', a ∈ as ∨ H0 a = none) (hok : TripOk t') :
    Off A (upd H sa (.ins A.Sa dx (saleF ll' ca tl' t'.done))) o { D with tas := D.tas.set k as' } (Kct0.setTrip s k t') ∧ Out H0 (upd H sa (.ins A.Sa dx (saleF ll' ca tl' t'.done))) o D { D with tas := D.tas.set k as' } := by
  have kp : Kp H (upd H sa (.ins A.Sa dx (saleF ll' ca tl' t'.done))) nSale := kp_upd hsa
  obtain ⟨d0, hd⟩ := g.at_
  have hkl : k < s.trips.length := (List.getElem?_eq_some_iff.mp hkt).1
  have hkt' : k < D.tas.length := (List.getElem?_eq_some_iff.mp hk2).1
  have old : ∀ (i : Nat) (as' : List Addr) (b : Addr), D.tas[i]? = some as' → b ∈ as' → H0 b ≠ none := fun i as' b h1 h2 => hdom b (.inr (.inr (.inr (.inr (.inr ⟨as', List.mem_of_getElem? h1, h2⟩)))))
  have cut : ∀ (i : Nat) (bs : List Addr), (D.tas.set k as')[i]? = some bs → (i ≠ k ∧ D.tas[i]? = some bs) ∨ (i = k ∧ bs = as') := fun i bs h2 => by
    by_cases e : i = k
    · subst e
      rw [List.getElem?_set_self hkt'] at h2
      exact .inr ⟨rfl, (Option.some.inj h2).symm⟩
    · rw [List.getElem?_set_ne (Ne.symm e)] at h2
      exact .inl ⟨e, h2⟩
  refine ⟨⟨⟨d0, kp _ _ hd (n_off (by decide +kernel))⟩, kp _ _ g.fl_ (n_lst (by decide +kernel)), kp _ _ g.sl_ (n_lst (by decide +kernel)), g.ne, g.fares.imp fun _ _ q => q.kp kp (by decide +kernel), g.fnd, ?_, ?_, ?_, g.snd, ?_, ?_, g.fok, ?_, ?_⟩, ?_⟩
  · show _ = (s.trips.set k t').length
    rw [List.length_set]; exact g.slen
  · show (D.tas.set k as').length = (s.trips.set k t').length
    rw [List.length_set, List.length_set]; exact g.tlen
  · intro i sb bs u h1 h2 h3
    have h3' : (s.trips.set k t')[i]? = some u := h3
    rcases cut i bs h2 with ⟨e, z⟩ | ⟨e, z⟩
    · rw [List.getElem?_set_ne (Ne.symm e)] at h3'
      obtain ⟨dx2, ll2, ca2, tl2, S2, ap2⟩ := g.sales i sb bs u h1 z h3'
      refine ⟨dx2, ll2, ca2, tl2, ⟨?_, S2.legs.kp kp (by decide +kernel) (by decide +kernel), S2.card.kp kp (by decide +kernel), S2.ticks.kp kp (by decide +kernel) (by decide +kernel)⟩, ⟨ap2.l1, ap2.l2, ap2.t1, ap2.t2⟩⟩
      rw [upd_ne ?_]
      · exact S2.at_
      · intro q
        exact e (nd_ix g.snd h1 (by rw [q]; exact hk))
    · subst e z
      rw [List.getElem?_set_self hkl] at h3'
      cases h3'
      have h1' : D.sas[i]? = some sb := h1
      rw [hk] at h1'
      cases h1'
      exact ⟨dx, ll', ca, tl', ⟨upd_same, hL.kp kp (by decide +kernel) (by decide +kernel), hC.kp kp (by decide +kernel), hT.kp kp (by decide +kernel) (by decide +kernel)⟩, ⟨ap.l1, ap.l2, ap.t1, ap.t2⟩⟩
  · intro i bs h2
    rcases cut i bs h2 with ⟨e, z⟩ | ⟨e, z⟩
    · exact g.tnd i bs z
    · rw [z]; exact hnd
  · intro i j bs cs b h2 h3 hb hc
    rcases cut i bs h2 with ⟨e, z⟩ | ⟨e, z⟩
    · rcases cut j cs h3 with ⟨e', z'⟩ | ⟨e', z'⟩
      · exact g.tdis i j bs cs b z z' hb hc
      · subst z'
        rcases hnew b hc with y | y
        · rw [e']
          exact g.tdis i k bs as b z hk2 hb y
        · exact absurd y (old i bs b z hb)
    · rcases cut j cs h3 with ⟨e', z'⟩ | ⟨e', z'⟩
      · subst z
        rcases hnew b hb with y | y
        · rw [e]
          exact g.tdis k j as cs b hk2 z' y hc
        · exact absurd y (old j cs b z' hc)
      · rw [e, e']
  · intro i u h3
    have h3' : (s.trips.set k t')[i]? = some u := h3
    by_cases e : i = k
    · subst e
      rw [List.getElem?_set_self hkl] at h3'
      cases h3'
      exact hok
    · rw [List.getElem?_set_ne (Ne.symm e)] at h3'
      exact g.tok i u h3'
  · show (s.trips.set k t').length ≤ 64
    rw [List.length_set]; exact g.few
  · refine ⟨fun b u e hn => ?_, fun b hb => ?_, fun b hb => ob.dom _ (dom_upd hb)⟩
    · rw [upd_ne ?_]
      · exact ob.keep _ _ e hn
      · intro q
        exact hn (.inr (.inr (.inr (.inr (.inl (by rw [q]; exact List.mem_of_getElem? hk))))))
    · rcases hb with z | z | z | z | z | ⟨l, hl1, hl2⟩
      · exact .inl (.inl z)
      · exact .inl (.inr (.inl z))
      · exact .inl (.inr (.inr (.inl z)))
      · exact .inl (.inr (.inr (.inr (.inl z))))
      · exact .inl (.inr (.inr (.inr (.inr (.inl z)))))
      · obtain ⟨i, hi⟩ := List.mem_iff_getElem?.mp hl1
        rcases cut i l hi with ⟨_, z⟩ | ⟨_, z⟩
        · exact .inl (.inr (.inr (.inr (.inr (.inr ⟨l, List.mem_of_getElem? z, hl2⟩)))))
        · subst z
          rcases hnew b hl2 with y | y
          · exact .inl (.inr (.inr (.inr (.inr (.inr ⟨as, List.mem_of_getElem? hk2, y⟩)))))
          · exact .inr y
end
end LF
end

section
set_option Elab.async false
set_option linter.all false
set_option maxRecDepth 100000
namespace LF
open PySem PySem.Spec PyProof.Rows L2
open Kct0 (Abs Trip Sold)
open Kct0Neutral (tell)
abbrev sIsFare : Stmt := top 41
abbrev sIsCard : Stmt := top 42
abbrev sOffI : Stmt := inClass (top 43) 0
abbrev sReset : Stmt := inClass (top 43) 1
abbrev sBegin : Stmt := inClass (top 43) 2
abbrev sAddFare : Stmt := inClass (top 43) 3
abbrev sHasFare : Stmt := inClass (top 43) 4
abbrev sClose : Stmt := inClass (top 43) 5
abbrev sSetPrice : Stmt := inClass (top 43) 6
abbrev sAsk : Stmt := inClass (top 43) 7
abbrev sIsTime : Stmt := inClass (top 43) 8
abbrev sBuy : Stmt := inClass (top 43) 9
abbrev sHasSale : Stmt := inClass (top 43) 10
abbrev sList : Stmt := inClass (top 43) 11
abbrev sRide : Stmt := inClass (top 43) 12
abbrev sGive : Stmt := inClass (top 43) 13
abbrev sChange : Stmt := inClass (top 43) 14
abbrev sBooks : Stmt := inClass (top 43) 15
structure TG2 (mg : Str → Option Value) : Prop where
  money : GI mg "MOST_MONEY" 1000000
  fares : GI mg "MOST_FARES" 64
  sales : GI mg "MOST_SALES" 64
  breaks : GI mg "MOST_BREAKS" 16
  off : GI mg "MOST_OFF" 100
  given : GI mg "GIVEN_BACK" (-1)
  missing : GI mg "MISSING" (-2)
  nowWrong : GI mg "NOW_WRONG" (-4)
  allRidden : GI mg "ALL_RIDDEN" (-11)
  gone : GI mg "GONE" (-16)
  touched : GI mg "TOUCHED" (-17)
  wrong : GI mg "WRONG" (-22)
  full : GI mg "FULL" (-28)
  noTickets : GI mg "NO_TICKETS" (-33)
/-- what a call on the office does -/
def OffRes (A : Ad) (H : Hp) (o : Addr) (D : OffD) (r : Abs × Kct0.Ans) (Q : VK) : Prop := ∀ (H' : Hp) (D' : OffD) (ra : Addr), Off A H' o D' r.1 → Out H H' o D D' → H ra = none → H' ra = some (.lst ((tell r.2).map V.int)) → Q (.ref ra) H'
theorem OffRes.to {A : Ad} {H : Hp} {o : Addr} {D : OffD} {r r' : Abs × Kct0.Ans} {Q : VK} (k : OffRes A H o D r Q) (e : r = r') : OffRes A H o D r' Q := e ▸ k
theorem few {α : Type} {l : List α} (h : Nat.ble (l.length + 1) 1000 = true := by rfl) : l.length < 1000 := Nat.le_of_ble_eq_true h
section
variable {A : Ad} {H H1 : Hp} {o : Addr} {D D' : OffD} {s s' : Abs} {Dd : Ends} {σ : St}
theorem fin {t : TA} {ans : Kct0.Ans} (k : OffRes A H o D (s', ans) Dd.rt) (O : Off A H1 o D' s') (out : Out H H1 o D D') (ha : Pa t σ H1 ((tell ans).map V.int)) (hz : (tell ans).length ≤ 100000) : tRet (tLst t) Dd σ H1 :=
  ret_of (lst_in ha (Nat.le_of_lt (lt_line (by rw [List.length_map]; exact hz))) fun p np => k _ D' p (O.same (same_new np)) (out.trans (Out.same (same_new np))) (out.dom p np) upd_same)
theorem refuse {v : Int} (O : Off A H o D s) (s1 : Same H H1) (k : OffRes A H o D (s, .num v) Dd.rt) : tRet (tLst (tCons (tC (.int v)) tNil)) Dd σ H1 := fin k (O.same s1) (Out.same s1) (pa_1 pu_c pa_0) (by show 1 ≤ 100000; decide)
end
theorem same_refl {H : Hp} : Same H H := fun _ _ e => e
section
variable {P : Program} {w : World} {K : PySem.W.Frag} {mg : Str → Option Value} {base : Heap} {A : Ad}
/-! ### is_fare, is_card -/
def fareOk (f : Kct0.Fare) : Bool := decide (¬ (Kct0.STOPS ≤ f.from_ ∨ Kct0.STOPS ≤ f.to_ ∨ 255 < f.via ∨ Kct0.DEAR < f.price ∨ Kct0.DAY ≤ f.last ∨ f.last < f.first ∨ Kct0.LATE < f.long ∨ Kct0.LEGS < f.breaks))
def spIsFare (A : Ad) : Sp := fun vs H Q _ => ∃ (a : Addr) (f : Kct0.Fare), vs = [.ref a] ∧ FareAt A.F H a f ∧ Q (.bl (fareOk f)) H
theorem scIsFare : FnScope ["fare"] ["fare"] (defScope sIsFare) := ⟨rfl, rfl, rfl, by decide +kernel, rfl, by decide +kernel, by decide +kernel⟩
theorem ok_isFare {f fI : Addr} {fd : FuncData} (F : Fun K "is_fare" "is_fare" sIsFare f fd) (T : TC K mg "Fare" A.F fI nFare) (G : TG1 mg) (G2 : TG2 mg) : FnOk P w K mg base CX0 1 f fd ["fare"] (spIsFare A) := by
  refine F.ok scIsFare (fun vs H Q E h => ?_) (fun cdv A' outer s H vs Q E hr h => ?_)
  · obtain ⟨a, f, rfl, _⟩ := h
    rfl
  · obtain ⟨a, f, rfl, ⟨dx, hp⟩, k⟩ := h
    refine ⟨_, pss_one (ps_ret (pe_and (pe_cmpR op_le (pe_fld (pv 0) rfl) (pgi G.last) (nomark _)) (pe_and (pe_cmpR op_le (pe_fld (pv 0) rfl) (pgi G.last) (nomark _)) (pe_and (pe_cmpR op_le (pe_fld (pv 0) rfl) (pgi G.any) (nomark _)) (pe_and (pe_cmpR op_le (pe_fld (pv 0) rfl) (pgi G2.money) (nomark _))
      (pe_and (pe_cmpR op_le (pe_fld (pv 0) rfl) (pe_fld (pv 0) rfl) (nomark _)) (pe_and (pe_cmpR op_lt (pe_fld (pv 0) rfl) (pgi G.day) (nomark _)) (pe_and (pe_cmpR op_le (pe_fld (pv 0) rfl) (pgi G.late) (nomark _)) (pe_one (pe_cmpR op_le (pe_fld (pv 0) rfl) (pgi G2.breaks) (nomark _))))))))))), ?_⟩
    refine ret_1 (pu_and (pu_0 (pu_fld pu_v hp T.cl (T.f 0) rfl) pu_c) fun _ => pu_and (pu_0 (pu_fld pu_v hp T.cl (T.f 1) rfl) pu_c) fun _ => pu_and (pu_0 (pu_fld pu_v hp T.cl (T.f 2) rfl) pu_c) fun _ => pu_and (pu_0 (pu_fld pu_v hp T.cl (T.f 3) rfl) pu_c) fun _ =>
      pu_and (pu_0 (pu_fld pu_v hp T.cl (T.f 4) rfl) (pu_fld pu_v hp T.cl (T.f 5) rfl)) fun _ => pu_and (pu_0 (pu_fld pu_v hp T.cl (T.f 5) rfl) pu_c) fun _ => pu_and (pu_0 (pu_fld pu_v hp T.cl (T.f 6) rfl) pu_c) fun _ => pu_0 (pu_fld pu_v hp T.cl (T.f 7) rfl) pu_c) ?_
    have e : (decide ((f.from_ : Int) ≤ 254) && (decide ((f.to_ : Int) ≤ 254) && (decide ((f.via : Int) ≤ 255) && (decide ((f.price : Int) ≤ 1000000) && (decide ((f.first : Int) ≤ f.last) && (decide ((f.last : Int) < 1440) && (decide ((f.long : Int) ≤ 16777216) && decide ((f.breaks : Int) ≤ 16)))))))) = fareOk f := by
      unfold fareOk Kct0.STOPS Kct0.DEAR Kct0.DAY Kct0.LATE Kct0.LEGS
      rw [Bool.eq_iff_iff]
      simp only [Bool.and_eq_true, decide_eq_true_iff]
      omega
    rw [e]
    exact k
theorem pu_isFare {t : TA} {σ : St} {H : Hp} {a : Addr} {l : Kct0.Fare} {E : XK} (ha : Pa t σ H [.ref a]) (h : FareAt A.F H a l) : Pu (tCall (spIsFare A) [] E t) σ H (.bl (fareOk l)) := fun _ q => call_in ha ⟨a, l, rfl, h, q⟩
def spIsCard (A : Ad) : Sp := fun vs H Q _ => ∃ (a : Addr) (c : Kct0.Card), vs = [.ref a] ∧ CardAt A.C H a c ∧ Q (.bl (Kct0.isCard c.off c.least)) H
theorem scIsCard : FnScope ["card"] ["card"] (defScope sIsCard) := ⟨rfl, rfl, rfl, by decide +kernel, rfl, by decide +kernel, by decide +kernel⟩
theorem ok_isCard {f fI : Addr} {fd : FuncData} (F : Fun K "is_card" "is_card" sIsCard f fd) (T : TC K mg "Card" A.C fI nCard) (G2 : TG2 mg) : FnOk P w K mg base CX0 1 f fd ["card"] (spIsCard A) := by
  refine F.ok scIsCard (fun vs H Q E h => ?_) (fun cdv A' outer s H vs Q E hr h => ?_)
  · obtain ⟨a, f, rfl, _⟩ := h
    rfl
  · obtain ⟨a, c, rfl, ⟨dx, hp⟩, k⟩ := h
    refine ⟨_, pss_one (ps_ret (pe_and (pe_cmpR op_le (pe_fld (pv 0) rfl) (pgi G2.off) (nomark _)) (pe_one (pe_cmpR op_le (pe_fld (pv 0) rfl) (pgi G2.money) (nomark _))))), ?_⟩
    refine ret_1 (pu_and (pu_0 (pu_fld pu_v hp T.cl (T.f 0) rfl) pu_c) fun _ => pu_0 (pu_fld pu_v hp T.cl (T.f 1) rfl) pu_c) ?_
    have e : (decide ((c.off : Int) ≤ 100) && decide ((c.least : Int) ≤ 1000000)) = Kct0.isCard c.off c.least := by
      unfold Kct0.isCard Kct0.DEAR
      rw [Bool.eq_iff_iff]
      simp only [Bool.and_eq_true, decide_eq_true_iff]
      omega
    rw [e]
    exact k
theorem pu_isCard {t : TA} {σ : St} {H : Hp} {a : Addr} {l : Kct0.Card} {E : XK} (ha : Pa t σ H [.ref a]) (h : CardAt A.C H a l) : Pu (tCall (spIsCard A) [] E t) σ H (.bl (Kct0.isCard l.off l.least)) := fun _ q => call_in ha ⟨a, l, rfl, h, q⟩
/-! ### reset, __init__, begin -/
def Fresh (A : Ad) (H : Hp) (o dx : Addr) (fee : Nat) (Q : VK) : Prop := ∀ H' fl sl, H fl = none → H sl = none → fl ≠ sl → H' o = some (.ins A.O dx (offF (Kct0.first fee) fl sl)) → H' fl = some (.lst []) → H' sl = some (.lst []) → (∀ b u, H b = some u → b ≠ o → H' b = some u) → Q .non H'
def spReset (A : Ad) : Sp := fun vs H Q _ => ∃ (o dx : Addr) (fs : List (Str × V)) (fee : Nat), vs = [.ref o, .int (fee : Int)] ∧ H o = some (.ins A.O dx fs) ∧ (fs = [] ∨ ∃ s fl sl, fs = offF s fl sl) ∧ Fresh A H o dx fee Q
theorem scReset : FnScope ["self", "fee"] ["self", "fee"] (defScope sReset) := ⟨rfl, rfl, rfl, by decide +kernel, rfl, by decide +kernel, by decide +kernel⟩
theorem lst_fld_s {K : PySem.W.Frag} {ta : TE} {f : Str} {r : TS} {D : Ends} {σ : St} {H : Hp} {a C dx : Addr} {fs : List (Str × V)} (ha : ∀ H' : Hp, Pu ta σ H' (.ref a)) (hp : H a = some (.ins C dx fs)) (cl : Cls K C) (n : NoAttr K C f) (hl : fs.length < 1000)
    (h : ∀ p, H p = none → r D σ (upd (upd H p (.lst [])) a (.ins C dx (putF f (.ref p) fs)))) : tSeq (sFld K ta (tLst tNil) f) r D σ H :=
  have h2 := lst_in (t := tNil) (σ := σ) (H := H) (Q := fun y H1 => ta σ H1 fun x H2 => ∃ a C dx fs, x = .ref a ∧ H2 a = some (.ins C dx fs) ∧ Cls K C ∧ NoAttr K C f ∧ fs.length < 1000 ∧ r D σ (upd H2 a (.ins C dx (putF f y fs)))) pa_0 (Nat.zero_le _) fun p np => ha _ _ ⟨a, C, dx, fs, rfl, (same_new np) _ _ hp, cl, n, hl, h p np⟩
  h2
theorem drop_s {te : TE} {r : TS} {D : Ends} {σ : St} {H : Hp} (h : te σ H fun _ H1 => r D σ H1) : tSeq (tDrop te) r D σ H := h
theorem ok_reset {f fI : Addr} {fd : FuncData} (F : Fun K "reset" "Office.reset" sReset f fd) (T : TC K mg "Office" A.O fI nOff) : FnOk P w K mg base CX0 1 f fd ["self", "fee"] (spReset A) := by
  refine F.ok scReset (fun vs H Q E h => ?_) (fun cdv A' outer s H vs Q E hr h => ?_)
  · obtain ⟨o, dx, fs, fee, rfl, _⟩ := h
    rfl
  · obtain ⟨o, dx, fs, fee, rfl, hp, hfs, k⟩ := h
    refine ⟨_, pss_cons (ps_fld (pv 0) (pv 1) rfl) (pss_cons (ps_fld (pv 0) (pe_lst pa_nil) rfl) (pss_cons (ps_fld (pv 0) (pe_lst pa_nil) rfl) (pss_cons (ps_fld (pv 0) pe_int rfl) (pss_cons (ps_fld (pv 0) pe_int rfl) (pss_cons (ps_fld (pv 0) pe_int rfl) (pss_one (ps_fld (pv 0) pe_int rfl))))))), ?_⟩
    have go : ∀ (H3 : Hp) (fl sl : Addr) (gs : List (Str × V)), H fl = none → H sl = none → fl ≠ sl → H3 fl = some (.lst []) → H3 sl = some (.lst []) → (∀ b u, H b = some u → b ≠ o → H3 b = some u) → gs = offF (Kct0.first fee) fl sl → Q .non (upd H3 o (.ins A.O dx gs)) := fun H3 fl sl gs n1 n2 n3 h1 h2 h3 e => by
      subst e
      have o1 : fl ≠ o := fun q => by rw [q, hp] at n1; cases n1
      have o2 : sl ≠ o := fun q => by rw [q, hp] at n2; cases n2
      exact k _ fl sl n1 n2 n3 upd_same (by rw [upd_ne o1]; exact h1) (by rw [upd_ne o2]; exact h2) fun b u e hb => by rw [upd_ne hb]; exact h3 b u e hb
    have fr : ∀ {H1 : Hp} {ob : HO} {p : Addr}, upd H1 o ob p = none → H1 p = none ∧ p ≠ o := fun {H1 ob p} e => ⟨dom_upd e, fun q => by rw [q, upd_same] at e; cases e⟩
    rcases hfs with rfl | ⟨s0, fl0, sl0, rfl⟩
    all_goals
      refine fld_s pu_v pu_v hp T.cl (T.f 0) few ?_
      refine lst_fld_s (fun _ => pu_v) upd_same T.cl (T.f 1) few fun fl nfl => ?_
      obtain ⟨nfl1, nfl2⟩ := fr nfl
      refine lst_fld_s (fun _ => pu_v) upd_same T.cl (T.f 2) few fun sl nsl => ?_
      obtain ⟨nsl1, nsl2⟩ := fr nsl
      have nsl3 := dom_upd (dom_upd nsl1)
      have nfs : fl ≠ sl := fun q => by
        rw [← q, upd_same] at nsl1
        cases nsl1
      refine fld_s pu_c pu_v upd_same T.cl (T.f 3) few ?_
      rw [upd_upd]
      refine fld_s pu_c pu_v upd_same T.cl (T.f 4) few ?_
      rw [upd_upd]
      refine fld_s pu_c pu_v upd_same T.cl (T.f 5) few ?_
      rw [upd_upd]
      refine fld_1 pu_c pu_v upd_same T.cl (T.f 6) few ?_
      rw [upd_upd]
      refine go _ fl sl _ nfl1 nsl3 nfs ?_ upd_same ?_ rfl
      · rw [upd_ne nfs, upd_ne nfl2, upd_same]
      · intro b u e hb
        have b1 : b ≠ fl := ne_of_none e nfl1
        have b2 : b ≠ sl := ne_of_none e nsl3
        rw [upd_ne b2, upd_ne hb, upd_ne b1, upd_ne hb]
        exact e
def spOffI (A : Ad) : Sp := fun vs H Q _ => ∃ (o dx : Addr), vs = [.ref o] ∧ H o = some (.ins A.O dx []) ∧ Fresh A H o dx 0 Q
theorem scOffI : FnScope ["self"] ["self"] (defScope sOffI) := ⟨rfl, rfl, rfl, by decide +kernel, rfl, by decide +kernel, by decide +kernel⟩
theorem ok_offI {f f1 fI : Addr} {fd fd1 : FuncData} (F : Fun K "__init__" "Office.__init__" sOffI f fd) (T : TC K mg "Office" A.O fI nOff) (M : MeT P w K mg base 1 A.O "reset" ["self", "fee"] (spReset A) f1 fd1) : FnOk P w K mg base CX0 2 f fd ["self"] (spOffI A) := by
  refine F.ok scOffI (fun vs H Q E h => ?_) (fun cdv A' outer s H vs Q E hr h => ?_)
  · obtain ⟨o, dx, rfl, _⟩ := h
    rfl
  · obtain ⟨o, dx, rfl, hp, k⟩ := h
    refine ⟨_, pss_one (ps_expr (pe_meth (pv 0) T.cl M.me M.ok hr M.b .nil pass0 (pa_cons pe_int pa_nil))), ?_⟩
    exact meth_in pu_v hp (by rfl) (pa_1 pu_c pa_0) ⟨o, dx, [], 0, rfl, hp, .inl rfl, k⟩
theorem off_first {H' : Hp} {o dx fl sl : Addr} {fee : Nat} (h1 : H' o = some (.ins A.O dx (offF (Kct0.first fee) fl sl))) (h2 : H' fl = some (.lst [])) (h3 : H' sl = some (.lst [])) (n : fl ≠ sl) : Off A H' o ⟨fl, sl, [], [], []⟩ (Kct0.first fee) :=
  ⟨⟨dx, h1⟩, h2, h3, n, Objs.nil, List.nodup_nil, rfl, rfl, fun i sa as t h _ _ => by simp at h, List.nodup_nil, fun i as h => by simp at h, fun i j as bs b h _ _ _ => by simp at h, ⟨Nat.zero_le _, fun i f h => by simp [Kct0.first] at h⟩, fun i t h => by simp [Kct0.first] at h, Nat.zero_le _⟩
def spBegin (A : Ad) : Sp := fun vs H Q _ => ∃ (o : Addr) (D : OffD) (s : Abs) (fee : Nat), vs = [.ref o, .int (fee : Int)] ∧ Off A H o D s ∧ OffRes A H o D (Kct0.step s (.begin_ fee)) Q
theorem scBegin : FnScope ["self", "fee"] ["self", "fee"] (defScope sBegin) := ⟨rfl, rfl, rfl, by decide +kernel, rfl, by decide +kernel, by decide +kernel⟩
theorem ok_begin {f f1 fI : Addr} {fd fd1 : FuncData} (F : Fun K "begin" "Office.begin" sBegin f fd) (T : TC K mg "Office" A.O fI nOff) (G2 : TG2 mg) (M : MeT P w K mg base 1 A.O "reset" ["self", "fee"] (spReset A) f1 fd1) : FnOk P w K mg base CX0 2 f fd ["self", "fee"] (spBegin A) := by
  refine F.ok scBegin (fun vs H Q E h => ?_) (fun cdv A' outer s H vs Q E hr h => ?_)
  · obtain ⟨o, D, s, fee, rfl, _⟩ := h
    rfl
  · obtain ⟨o, D, st, fee, rfl, O, k⟩ := h
    refine ⟨_, pss_cons (ps_if (pt_cmpR op_gt (pv 1) (pgi G2.money) (nomark _)) (pss_one (ps_ret (pe_lst (pa_cons (pgi G2.wrong) pa_nil)))) pss_nil)
      (pss_cons (ps_expr (pe_meth (pv 0) T.cl M.me M.ok hr M.b .nil pass0 (pa_cons (pv 1) pa_nil))) (pss_one (ps_ret (pe_lst (pa_cons pe_int pa_nil))))), ?_⟩
    refine if_s0 (pt_of (pu_0 pu_v pu_c)) (fun hb => ?_) (fun hb => ?_)
    · have h' := of_decide_eq_true (show decide ((1000000 : Int) < (fee : Int)) = true from hb)
      exact refuse O same_refl (k.to (by show (if _ then _ else _) = _; rw [if_pos (by show 1000000 < fee; omega)]))
    · have h' := of_decide_eq_false (show decide ((1000000 : Int) < (fee : Int)) = false from hb)
      have k' := k.to (r' := (Kct0.first fee, .num 0)) (by show (if _ then _ else _) = _; rw [if_neg (by show ¬ 1000000 < fee; omega)])
      obtain ⟨dx, hd⟩ := O.at_
      refine drop_s (meth_in pu_v hd (by rfl) (pa_1 pu_v pa_0) ⟨o, dx, _, fee, rfl, hd, .inr ⟨st, D.fl, D.sl, rfl⟩, fun H1 fl sl n1 n2 n3 h1 h2 h3 h4 => ?_⟩)
      refine fin k' (D' := ⟨fl, sl, [], [], []⟩) (off_first h1 h2 h3 n3) ⟨fun b u e hn => h4 b u e fun q => hn (.inl q), fun b hb => ?_, fun b hb => ?_⟩ (pa_1 pu_c pa_0) (by show 1 ≤ 100000; decide)
      · rcases hb with z | z | z | z | z | ⟨l, z, _⟩
        · exact .inl (.inl z)
        · rw [z]; exact .inr n1
        · rw [z]; exact .inr n2
        · cases z
        · cases z
        · cases z
      · cases q : H b with
        | none => rfl
        | some u =>
          by_cases e : b = o
          · rw [e, h1] at hb; cases hb
          · rw [h4 b u q e] at hb; cases hb
end
end LF
end

section
set_option Elab.async false
set_option linter.all false
set_option maxRecDepth 100000
namespace LF
open PySem PySem.Spec PyProof.Rows L2
open Kct0 (Abs Trip Sold)
open Kct0Neutral (tell)
/-! ### readings that keep what was there -/
def Psu (t : TE) (σ : St) (H : Hp) (v : V) : Prop := ∀ Q : VK, (∀ H', Same H H' → Q v H') → t σ H Q
def Pst (t : TT) (σ : St) (H : Hp) (c : Bool) : Prop := ∀ Q : Bool → Hp → Prop, (∀ H', Same H H' → Q c H') → t σ H Q
section
variable {σ : St} {H : Hp} {c d : Bool} {K : PySem.W.Frag}
theorem psu_pu {t : TE} {v : V} (h : Pu t σ H v) : Psu t σ H v := fun Q q => h Q (q H same_refl)
theorem pst_not {t : TT} (h : Pst t σ H c) : Pst (tNot t) σ H (!c) := fun Q q => h _ q
theorem pst_bl {t : TE} (h : Psu t σ H (.bl c)) : Pst (tTru K t) σ H c := fun Q q => h _ fun H' s => ⟨c, rfl, q H' s⟩
theorem pst_or {t u : TT} (ha : Pst t σ H c) (hb : ∀ H', Same H H' → Pst u σ H' d) : Pst (tOr t u) σ H (c || d) := fun Q q => ha _ fun H1 s1 => by
  cases c with
  | true => rw [if_pos rfl]; exact q H1 s1
  | false => rw [if_neg Bool.false_ne_true]; exact hb H1 s1 Q fun H2 s2 => q H2 (s1.trans s2)
end
theorem if_ss {c : TT} {t r : TS} {D : Ends} {σ : St} {H : Hp} {b : Bool} (hc : Pst c σ H b) (h1 : ∀ H', Same H H' → b = true → t { D with nx := r D } σ H') (h2 : ∀ H', Same H H' → b = false → r D σ H') : tSeq (tIfS c t tNext) r D σ H := hc _ fun H1 s1 => by
  cases b with
  | true => exact iteT (h1 H1 s1 rfl)
  | false => exact iteF (h2 H1 s1 rfl)
theorem ps_journey {C : Addr} {t : TA} {σ : St} {H : Hp} {a : Addr} {l : List Kct0.Leg} {E : XK} (ha : Pa t σ H [.ref a]) (h : LegsAt C H a l) : Psu (tCall (spIsJ C) [] E t) σ H (.bl (Kct0.isJourney l)) := fun _ q => call_in ha ⟨a, l, rfl, h, q⟩
theorem ps_total {C : Addr} {t : TA} {σ : St} {H : Hp} {tl : Addr} {as : List Addr} {l : List Sold} {E : XK} (ha : Pa t σ H [.ref tl]) (h : TicksAt C H tl as l) (hl : l.length ≤ 100) : Psu (tCall (spTotal C) [] E t) σ H (.int (paidSum l : Nat)) := fun _ q => call_in ha ⟨tl, as, l, rfl, h, hl, q⟩
/-! ### for x in xs: ys.extend([..]) -/
theorem ext_1 {K : PySem.W.Frag} {to : TE} {t : TA} {D : Ends} {σ : St} {H : Hp} {l : Addr} {xs zs : List V} (ho : Pu to σ H (.ref l)) (hl : H l = some (.lst xs)) (ha : Pa t σ H zs) (hz : zs.length ≤ 100000) (hs : xs.length + zs.length ≤ sizeLine) (h : ∀ b, H b = none → D.nx σ (upd (upd H b (.lst zs)) l (.lst (xs ++ zs)))) :
    tDrop (tBM K "list" rExtend to (tCons (tLst t) tNil)) D σ H := ho _ ⟨.inl ⟨rfl, _, SqL.of hl⟩, lst_in (Q := fun v H1 => rExtend (.ref l) [v] H1 fun _ H2 => D.nx σ H2) ha (Nat.le_of_lt (lt_line hz)) fun b nb => ⟨l, b, xs, zs, rfl, rfl, (same_new nb) _ _ hl, upd_same, hs, h b nb⟩⟩
theorem flat_len2 {α : Type} {f : α → List V} {m : Nat} (h : ∀ x, (f x).length ≤ m) : ∀ l : List α, (l.flatMap f).length ≤ m * l.length
  | [] => Nat.zero_le _
  | a :: l => by
    rw [List.flatMap_cons, List.length_append, List.length_cons, Nat.mul_add]
    have := h a
    have := flat_len2 h l
    omega
theorem for_ext {α : Type} {K : PySem.W.Frag} {R : Addr → α → Prop} {te to : TE} {t : TA} {j : Nat} {r : TS} {D : Ends} {σ : St} {H : Hp} {tl ra : Addr} {as : List Addr} {ys : List α} (g : α → List V) (hg : ∀ x, (g x).length ≤ 10) (ha : Pu te σ H (.ref tl)) (htl : H tl = some (.lst (as.map V.ref))) (O : Objs R as ys) (hn : ys.length ≤ 1000)
    {xs0 : List V} (hra : H ra = some (.lst xs0)) (h0 : xs0.length ≤ 10) (nra : tl ≠ ra) (hσ : σ.set j none = σ) (hto : ∀ v H', Pu to (σ.set j v) H' (.ref ra))
    (step : ∀ (i : Nat) (b : Addr) (y : α) (H' : Hp), as[i]? = some b → ys[i]? = some y → R b y → (∀ c u, H c = some u → c ≠ ra → H' c = some u) → Pa t (σ.set j (some (.ref b))) H' (g y))
    (k : ∀ v H', (∀ c u, H c = some u → c ≠ ra → H' c = some u) → H' ra = some (.lst (xs0 ++ ys.flatMap g)) → r D (σ.set j v) H') : tSeq (tFor (iList K te) (gName j) (tDrop (tBM K "list" rExtend to (tCons (tLst t) tNil)))) r D σ H := by
  refine for_l ha (SqL.of htl) ?_
  refine for_list (K := K) (a := tl) (xs := as.map V.ref) (fun i σ' H' => ∃ v, σ' = σ.set j v ∧ (∀ c u, H c = some u → c ≠ ra → H' c = some u) ∧ H' ra = some (.lst (xs0 ++ (ys.take i).flatMap g))) ⟨none, hσ.symm, fun _ _ e _ => e, by rw [List.take_zero]; show H ra = some (.lst (xs0 ++ [])); rw [List.append_nil]; exact hra⟩ (fun i σ' H' _ ⟨_, _, kp, _⟩ => SqL.of (kp _ _ htl nra)) ?_ ?_
  · rintro i x σ' H1 hi ⟨v, rfl, kp, hr1⟩
    obtain ⟨b, hb, rfl⟩ := ref_at hi
    obtain ⟨y, hy, hR⟩ := O.get' hb
    show tDrop _ _ ((σ.set j v).set j (some (.ref b))) H1
    rw [List.set_set]
    refine ext_1 (hto _ _) hr1 (step i b y H1 hb hy hR kp) (by have := hg y; omega) ?_ fun c nc => ?_
    · have h3 := flat_len2 hg (ys.take i)
      have h4 := hg y
      rw [List.length_take] at h3
      rw [List.length_append]
      exact Nat.le_of_lt (lt_line (by omega))
    · refine ⟨_, rfl, fun c' u e hn' => ?_, ?_⟩
      · rw [upd_ne hn', upd_ne (ne_of_none (kp _ _ e hn') nc)]
        exact kp _ _ e hn'
      · rw [upd_same, take_snoc hy, List.flatMap_append, List.flatMap_cons, List.append_assoc]
        show _ = some (HO.lst (xs0 ++ ((ys.take i).flatMap g ++ (g y ++ []))))
        rw [List.append_nil]
  · rintro σ' H1 ⟨v, rfl, kp, hr1⟩
    rw [List.length_map, O.len, List.take_length] at hr1
    exact k v H1 kp hr1
section
variable {P : Program} {w : World} {K : PySem.W.Frag} {mg : Str → Option Value} {base : Heap} {A : Ad}
/-! ### add_fare -/
def spAddFare (A : Ad) : Sp := fun vs H Q _ => ∃ (o ta : Addr) (D : OffD) (s : Abs) (a z v p i j n b : Nat), vs = [.ref o, .ref ta] ∧ Off A H o D s ∧ H ta = some (.lst (nats [a, z, v, p, i, j, n, b])) ∧ OffRes A H o D (Kct0.step s (.fare a z v p i j n b)) Q
theorem scAddFare : FnScope ["self", "told", "fare"] ["self", "told"] (defScope sAddFare) := ⟨rfl, rfl, rfl, by decide +kernel, rfl, by decide +kernel, by decide +kernel⟩
theorem ok_addFare {f f1 fI fF : Addr} {fd fd1 fdF : FuncData} (F : Fun K "add_fare" "Office.add_fare" sAddFare f fd) (T : TC K mg "Office" A.O fI nOff) (TF : TC K mg "Fare" A.F fF nFare) (G2 : TG2 mg) (B : TB mg)
    (MF : FnOk P w K mg base CX0 1 fF fdF ["self", "told"] (spFareI A.F K)) (bF : Binds K fdF ["self", "told"] []) (L1 : FnT P w K mg base 1 "is_fare" ["fare"] (spIsFare A) f1 fd1) : FnOk P w K mg base CX0 3 f fd ["self", "told"] (spAddFare A) := by
  refine F.ok scAddFare (fun vs H Q E h => ?_) (fun cdv A' outer s H vs Q E hr h => ?_)
  · obtain ⟨o, ta, D, s, a, z, v, p, i, j, n, b, rfl, _⟩ := h
    rfl
  · obtain ⟨o, ta, D, st, a, z, v, p, i, j, n, b, rfl, O, hta, k⟩ := h
    have hr1 : Room 1 _ := hr.mono (by decide)
    have nd := scAddFare.nd
    refine ⟨_, pss_cons (ps_set (i := 2) nd rfl (Or.inl rfl) (pmake TF MF bF hr (pa_cons (pv 1) pa_nil)))
      (pss_cons (ps_if (pt_not (ptru (pcall L1 hr1 (pa_cons (pv 2) pa_nil)))) (pss_one (ps_ret (pe_lst (pa_cons (pgi G2.wrong) pa_nil)))) pss_nil)
      (pss_cons (ps_if (pt_cmpR op_ge (pe_callB call_len_seq (by rfl) B.len PySem.boot_len (pa_cons (pe_fld (pv 0) rfl) pa_nil)) (pgi G2.fares) (nomark _)) (pss_one (ps_ret (pe_lst (pa_cons (pgi G2.full) pa_nil)))) pss_nil)
      (pss_cons (ps_expr (pe_bm PySem.F.plainAttrs_list PySem.F.slot_list_append PySem.F.type_list_append mt_append (pe_fld (pv 0) rfl) (pa_cons (pv 2) pa_nil)))
      (pss_one (ps_ret (pe_lst (pa_cons (pe_op op_sub (pe_callB call_len_seq (by rfl) B.len PySem.boot_len (pa_cons (pe_fld (pv 0) rfl) pa_nil)) pe_int) pa_nil))))))), ?_⟩
    refine asg_s (pa_1 pu_v pa_0 _ ?_)
    intro x dx nx ndx nex
    have sm : Same H (mkI H A.F x dx (fareF (fareOf a z v p i j n b))) := mkI_same nx ndx
    have hx : mkI H A.F x dx (fareF (fareOf a z v p i j n b)) x = some (.ins A.F dx (fareF (fareOf a z v p i j n b))) := mkI_at
    have nxt : x ≠ ta := (ne_of_none hta nx).symm
    refine ⟨x, dx, ta, a, z, v, p, i, j, n, b, rfl, upd_same, nxt, SqL.of (by rw [upd_ne (Ne.symm nxt), upd_ne (ne_of_none hta ndx)]; exact hta), rfl, ?_⟩
    rw [upd_upd]
    show tSeq _ _ _ _ (mkI H A.F x dx (fareF (fareOf a z v p i j n b)))
    generalize mkI H A.F x dx (fareF (fareOf a z v p i j n b)) = H1 at sm hx
    have O1 := O.same sm
    obtain ⟨d0, ho⟩ := O1.at_
    have e0 : Kct0.step st (.fare a z v p i j n b) = if fareOk (fareOf a z v p i j n b) = false then (st, .num (-22)) else if Kct0.FARES ≤ st.fares.length then (st, .num (-28)) else ({ st with fares := st.fares ++ [fareOf a z v p i j n b] }, .num st.fares.length) := by
      show (if _ then _ else _) = _
      by_cases hc : (Kct0.STOPS ≤ a ∨ Kct0.STOPS ≤ z ∨ 255 < v ∨ Kct0.DEAR < p ∨ Kct0.DAY ≤ j ∨ j < i ∨ Kct0.LATE < n ∨ Kct0.LEGS < b)
      · have e1 : fareOk (fareOf a z v p i j n b) = false := decide_eq_false fun q => q hc
        rw [if_pos hc, if_pos e1]
      · have e1 : fareOk (fareOf a z v p i j n b) = true := decide_eq_true hc
        have e2 : ¬ fareOk (fareOf a z v p i j n b) = false := by rw [e1]; exact fun q => by cases q
        rw [if_neg hc, if_neg e2]
        rfl
    rw [e0] at k
    refine if_s0 (pt_not' (pt_bl (pu_isFare (pa_1 pu_v pa_0) ⟨dx, hx⟩))) (fun hb => ?_) (fun hb => ?_)
    · have hb' : fareOk (fareOf a z v p i j n b) = false := by simpa using hb
      exact refuse O sm (k.to (by rw [if_pos hb']))
    · have hb' : fareOk (fareOf a z v p i j n b) = true := by simpa using hb
      have k1 := k.to (by rw [if_neg (by rw [hb']; exact fun q => by cases q)])
      have hlen : ((D.fas.map V.ref).length : Int) = (st.fares.length : Int) := by rw [List.length_map, O.fares.len]
      refine if_s0 (pt_of (pu_0 (pu_len (pa_1 (pu_fld pu_v ho T.cl (T.f 1) rfl) pa_0) (SqL.of O1.fl_)) pu_c)) (fun hc => ?_) (fun hc => ?_)
      · have hc' := of_decide_eq_true (show decide ((64 : Int) ≤ ((D.fas.map V.ref).length : Int)) = true from hc)
        rw [hlen] at hc'
        exact refuse O sm (k1.to (by rw [if_pos (by show 64 ≤ st.fares.length; omega)]))
      · have hc' := of_decide_eq_false (show decide ((64 : Int) ≤ ((D.fas.map V.ref).length : Int)) = false from hc)
        rw [hlen] at hc'
        have k2 := k1.to (by rw [if_neg (by show ¬ 64 ≤ st.fares.length; omega)])
        have hp : (fareOf a z v p i j n b).price ≤ 1000000 := by
          have := of_decide_eq_true hb'
          unfold Kct0.DEAR at this
          omega
        have G := O.addFare sm nx ⟨dx, hx⟩ hp (by omega)
        refine app_s (pu_fld pu_v ho T.cl (T.f 1) rfl) pu_v O1.fl_ (lt_line (by have := O.fok.few; rw [List.length_map, O.fares.len]; omega)) ?_
        obtain ⟨d1, ho1⟩ := G.1.at_
        refine fin k2 G.1 G.2 (fun Q' q' => pa_1 (pu_0 (pu_len (pa_1 (pu_fld pu_v ho1 T.cl (T.f 1) rfl) pa_0) (SqL.of G.1.fl_)) pu_c) pa_0 _ ?_) (by show 1 ≤ 100000; decide)
        have e : (((D.fas ++ [x]).map V.ref).length : Int) - 1 = (st.fares.length : Int) := by
          rw [List.length_map, List.length_append, O.fares.len]
          show ((st.fares.length + 1 : Nat) : Int) - 1 = _
          omega
        show Q' [.int ((((D.fas ++ [x]).map V.ref).length : Int) - 1)] _
        rw [e]
        exact q'
/-! ### has_fare, close_fare, set_price -/
def hasFare (s : Abs) (f : Nat) : Bool := (s.fares[f]?).any (·.open_)
def spHasFare (A : Ad) : Sp := fun vs H Q _ => ∃ (o : Addr) (D : OffD) (s : Abs) (f : Nat), vs = [.ref o, .int (f : Int)] ∧ Off A H o D s ∧ Q (.bl (hasFare s f)) H
theorem scHasFare : FnScope ["self", "f"] ["self", "f"] (defScope sHasFare) := ⟨rfl, rfl, rfl, by decide +kernel, rfl, by decide +kernel, by decide +kernel⟩
theorem ok_hasFare {f fI fF : Addr} {fd : FuncData} (F : Fun K "has_fare" "Office.has_fare" sHasFare f fd) (T : TC K mg "Office" A.O fI nOff) (TF : TC K mg "Fare" A.F fF nFare) (B : TB mg) : FnOk P w K mg base CX0 1 f fd ["self", "f"] (spHasFare A) := by
  refine F.ok scHasFare (fun vs H Q E h => ?_) (fun cdv A' outer s H vs Q E hr h => ?_)
  · obtain ⟨o, D, s, n, rfl, _⟩ := h
    rfl
  · obtain ⟨o, D, st, n, rfl, O, k⟩ := h
    obtain ⟨d0, ho⟩ := O.at_
    refine ⟨_, pss_one (ps_ret (pe_and (pe_cmpR op_lt (pv 1) (pe_callB call_len_seq (by rfl) B.len PySem.boot_len (pa_cons (pe_fld (pv 0) rfl) pa_nil)) (nomark _)) (pe_one (pe_not (pe_fld (pe_ix ix_list (pe_fld (pv 0) rfl) (pv 1) (fun _ _ => rfl)) rfl))))), ?_⟩
    have hlen : ((D.fas.map V.ref).length : Int) = (st.fares.length : Int) := by rw [List.length_map, O.fares.len]
    refine ret_1 (v := .bl (decide ((n : Int) < ((D.fas.map V.ref).length : Int)) && hasFare st n)) (pu_and (pu_0 pu_v (pu_len (pa_1 (pu_fld pu_v ho T.cl (T.f 1) rfl) pa_0) (SqL.of O.fl_))) fun hc => ?_) ?_
    · have hc' := of_decide_eq_true (show decide ((n : Int) < ((D.fas.map V.ref).length : Int)) = true from hc)
      rw [hlen] at hc'
      obtain ⟨fr, hfr⟩ : ∃ fr, st.fares[n]? = some fr := ⟨_, List.getElem?_eq_getElem (by omega)⟩
      obtain ⟨a, ha, d, hA⟩ := O.fares.get hfr
      intro Q' q'
      refine pu_not (pu_fld (pu_ixL (pu_fld pu_v ho T.cl (T.f 1) rfl) pu_v (SqL.of O.fl_) (at_v (at_ref ha) rfl)) hA TF.cl (TF.f 8) rfl) _ ?_
      have e : hasFare st n = fr.open_ := by unfold hasFare; rw [hfr]; rfl
      rw [e] at q'
      rw [Bool.not_not]
      exact q'
    · have e : (decide ((n : Int) < ((D.fas.map V.ref).length : Int)) && hasFare st n) = hasFare st n := by
        rw [hlen]
        by_cases h : n < st.fares.length
        · rw [decide_eq_true (by omega), Bool.true_and]
        · have e2 : hasFare st n = false := by unfold hasFare; rw [List.getElem?_eq_none (by omega)]; rfl
          rw [e2, Bool.and_false]
      rw [e]
      exact k
theorem pu_hasFare {ta : TE} {t : TA} {σ : St} {H : Hp} {o : Addr} {D : OffD} {s : Abs} {n : Nat} {E : XK} (ho : Pu ta σ H (.ref o)) (ha : Pa t σ H [.int (n : Int)]) (O : Off A H o D s) : Pu (tMeth A.O "has_fare" (spHasFare A) [] E ta t) σ H (.bl (hasFare s n)) := fun Q q =>
  let ⟨_, hd⟩ := O.at_; meth_in ho hd (by rfl) ha ⟨o, D, s, n, rfl, O, q⟩
def spClose (A : Ad) : Sp := fun vs H Q _ => ∃ (o : Addr) (D : OffD) (s : Abs) (f : Nat), vs = [.ref o, .int (f : Int)] ∧ Off A H o D s ∧ OffRes A H o D (Kct0.step s (.close f)) Q
theorem scClose : FnScope ["self", "f", "fare"] ["self", "f"] (defScope sClose) := ⟨rfl, rfl, rfl, by decide +kernel, rfl, by decide +kernel, by decide +kernel⟩
theorem ok_close {f f1 fI fF : Addr} {fd fd1 : FuncData} (F : Fun K "close_fare" "Office.close_fare" sClose f fd) (T : TC K mg "Office" A.O fI nOff) (TF : TC K mg "Fare" A.F fF nFare) (G2 : TG2 mg) (M : MeT P w K mg base 1 A.O "has_fare" ["self", "f"] (spHasFare A) f1 fd1) : FnOk P w K mg base CX0 2 f fd ["self", "f"] (spClose A) := by
  refine F.ok scClose (fun vs H Q E h => ?_) (fun cdv A' outer s H vs Q E hr h => ?_)
  · obtain ⟨o, D, s, n, rfl, _⟩ := h
    rfl
  · obtain ⟨o, D, st, n, rfl, O, k⟩ := h
    obtain ⟨d0, ho⟩ := O.at_
    have nd := scClose.nd
    refine ⟨_, pss_cons (ps_if (pt_not (ptru (pe_meth (pv 0) T.cl M.me M.ok hr M.b .nil pass0 (pa_cons (pv 1) pa_nil)))) (pss_one (ps_ret (pe_lst (pa_cons (pgi G2.missing) pa_nil)))) pss_nil)
      (pss_cons (ps_set (i := 2) nd rfl (Or.inl rfl) (pe_ix ix_list (pe_fld (pv 0) rfl) (pv 1) (fun _ _ => rfl))) (pss_cons (ps_fld (pv 2) pe_bl rfl) (pss_one (ps_ret (pe_lst (pa_cons pe_int pa_nil)))))), ?_⟩
    refine if_s0 (pt_not' (pt_bl (pu_hasFare pu_v (pa_1 pu_v pa_0) O))) (fun hb => ?_) (fun hb => ?_)
    · have hb' : hasFare st n = false := by simpa using hb
      refine refuse O same_refl (k.to ?_)
      show (match st.fares[n]? with | none => _ | some x => _) = _
      unfold hasFare at hb'
      cases e : st.fares[n]? with
      | none => rfl
      | some x =>
        rw [e] at hb'
        show (if _ then _ else _) = _
        rw [if_pos (by simpa using hb')]
    · have hb' : hasFare st n = true := by simpa using hb
      unfold hasFare at hb'
      cases e : st.fares[n]? with
      | none => rw [e] at hb'; cases hb'
      | some fr =>
        rw [e] at hb'
        have hop : fr.open_ = true := by simpa using hb'
        obtain ⟨a, ha, d, hA⟩ := O.fares.get e
        have k' := k.to (r' := ({ st with fares := st.fares.set n { fr with open_ := false } }, .num 0)) (by
          show (match st.fares[n]? with | none => _ | some x => _) = _
          rw [e]
          show (if _ then _ else _) = _
          rw [if_neg (by rw [hop]; exact fun q => by cases q)])
        refine set_s (pu_ixL (pu_fld pu_v ho T.cl (T.f 1) rfl) pu_v (SqL.of O.fl_) (at_v (at_ref ha) rfl)) ?_
        refine fld_s pu_c pu_v hA TF.cl (TF.f 8) few ?_
        have G := O.setFare (f' := { fr with open_ := false }) ha hA (O.fok.price n fr e)
        exact fin k' G.1 G.2 (pa_1 pu_c pa_0) (by show 1 ≤ 100000; decide)
def spSetPrice (A : Ad) : Sp := fun vs H Q _ => ∃ (o : Addr) (D : OffD) (s : Abs) (f p : Nat), vs = [.ref o, .int (f : Int), .int (p : Int)] ∧ Off A H o D s ∧ OffRes A H o D (Kct0.step s (.price f p)) Q
theorem scSetPrice : FnScope ["self", "f", "price", "fare"] ["self", "f", "price"] (defScope sSetPrice) := ⟨rfl, rfl, rfl, by decide +kernel, rfl, by decide +kernel, by decide +kernel⟩
theorem ok_setPrice {f f1 fI fF : Addr} {fd fd1 : FuncData} (F : Fun K "set_price" "Office.set_price" sSetPrice f fd) (T : TC K mg "Office" A.O fI nOff) (TF : TC K mg "Fare" A.F fF nFare) (G2 : TG2 mg) (M : MeT P w K mg base 1 A.O "has_fare" ["self", "f"] (spHasFare A) f1 fd1) : FnOk P w K mg base CX0 2 f fd ["self", "f", "price"] (spSetPrice A) := by
  refine F.ok scSetPrice (fun vs H Q E h => ?_) (fun cdv A' outer s H vs Q E hr h => ?_)
  · obtain ⟨o, D, s, n, p, rfl, _⟩ := h
    rfl
  · obtain ⟨o, D, st, n, p, rfl, O, k⟩ := h
    obtain ⟨d0, ho⟩ := O.at_
    have nd := scSetPrice.nd
    refine ⟨_, pss_cons (ps_if (pt_not (ptru (pe_meth (pv 0) T.cl M.me M.ok hr M.b .nil pass0 (pa_cons (pv 1) pa_nil)))) (pss_one (ps_ret (pe_lst (pa_cons (pgi G2.missing) pa_nil)))) pss_nil)
      (pss_cons (ps_if (pt_cmpR op_gt (pv 2) (pgi G2.money) (nomark _)) (pss_one (ps_ret (pe_lst (pa_cons (pgi G2.wrong) pa_nil)))) pss_nil)
      (pss_cons (ps_set (i := 3) nd rfl (Or.inl rfl) (pe_ix ix_list (pe_fld (pv 0) rfl) (pv 1) (fun _ _ => rfl))) (pss_cons (ps_fld (pv 3) (pv 2) rfl) (pss_one (ps_ret (pe_lst (pa_cons pe_int pa_nil))))))), ?_⟩
    refine if_s0 (pt_not' (pt_bl (pu_hasFare pu_v (pa_1 pu_v pa_0) O))) (fun hb => ?_) (fun hb => ?_)
    · have hb' : hasFare st n = false := by simpa using hb
      refine refuse O same_refl (k.to ?_)
      show (match st.fares[n]? with | none => _ | some x => _) = _
      unfold hasFare at hb'
      cases e : st.fares[n]? with
      | none => rfl
      | some x =>
        rw [e] at hb'
        show (if _ then _ else _) = _
        rw [if_pos (by simpa using hb')]
    · have hb' : hasFare st n = true := by simpa using hb
      unfold hasFare at hb'
      cases e : st.fares[n]? with
      | none => rw [e] at hb'; cases hb'
      | some fr =>
        rw [e] at hb'
        have hop : fr.open_ = true := by simpa using hb'
        obtain ⟨a, ha, d, hA⟩ := O.fares.get e
        have k' := k.to (r' := if Kct0.DEAR < p then (st, .num (-22)) else ({ st with fares := st.fares.set n { fr with price := p } }, .num 0)) (by
          show (match st.fares[n]? with | none => _ | some x => _) = _
          rw [e]
          show (if _ then _ else _) = _
          rw [if_neg (by rw [hop]; exact fun q => by cases q)])
        refine if_s0 (pt_of (pu_0 pu_v pu_c)) (fun hc => ?_) (fun hc => ?_)
        · have hc' := of_decide_eq_true (show decide ((1000000 : Int) < (p : Int)) = true from hc)
          exact refuse O same_refl (k'.to (by rw [if_pos (by show 1000000 < p; omega)]))
        · have hc' := of_decide_eq_false (show decide ((1000000 : Int) < (p : Int)) = false from hc)
          have k2 := k'.to (by rw [if_neg (by show ¬ 1000000 < p; omega)])
          refine set_s (pu_ixL (pu_fld pu_v ho T.cl (T.f 1) rfl) pu_v (SqL.of O.fl_) (at_v (at_ref ha) rfl)) ?_
          refine fld_s pu_v pu_v hA TF.cl (TF.f 3) few ?_
          have G := O.setFare (f' := { fr with price := p }) ha hA (by show p ≤ 1000000; omega)
          exact fin k2 G.1 G.2 (pa_1 pu_c pa_0) (by show 1 ≤ 100000; decide)
end
end LF
end

section
set_option Elab.async false
set_option linter.all false
set_option maxRecDepth 100000
namespace LF
open PySem PySem.Spec PyProof.Rows L2
open Kct0 (Abs Trip Sold)
open Kct0Neutral (tell)
theorem lst_1 {te : TE} {σ : St} {H : Hp} {Q : VK} (h : te σ H fun v H1 => 1 ≤ sizeLine ∧ ∀ p, H1 p = none → Q (.ref p) (upd H1 p (.lst [v]))) : tLst (tCons te tNil) σ H Q := h
theorem tell_some (v : Int) (l : List Nat) : (tell (.some_ v l)).map V.int = .int v :: nats l := by
  show V.int v :: (l.map fun (x : Nat) => (x : Int)).map V.int = _
  rw [List.map_map]
  rfl
theorem nats_flat {α : Type} {f : α → List Nat} : ∀ l : List α, nats (l.flatMap f) = l.flatMap fun x => nats (f x)
  | [] => rfl
  | a :: l => by
    rw [List.flatMap_cons, List.flatMap_cons, ← nats_flat l]
    show List.map _ _ = List.map _ _ ++ List.map _ _
    rw [List.map_append]
theorem sell_flat (fs : List Kct0.Fare) (c : Kct0.Card) (p : Kct0.Plan) : ((Kct0.sell fs c p).flatMap fun x => [V.int (x.fare : Int), V.int (x.legs : Int)]) = nats (p.tickets.flatMap fun t => [t.1, t.2]) := by
  rw [nats_flat]
  unfold Kct0.sell
  rw [List.flatMap_map]
  rfl
theorem SellOk.few {fs : List Kct0.Fare} {c : Kct0.Card} {ls : List Kct0.Leg} {p : Kct0.Plan} (h : SellOk fs c ls p) (h16 : ls.length ≤ 16) : (Kct0.sell fs c p).length ≤ 16 := by
  have := sold_le _ h.pos
  have := h.legs
  omega
theorem journey_len {ls : List Kct0.Leg} (h : Kct0.isJourney ls = true) : 1 ≤ ls.length ∧ ls.length ≤ 16 := ((isJourney_iff ls).mp h).1
section
variable {P : Program} {w : World} {K : PySem.W.Frag} {mg : Str → Option Value} {base : Heap} {A : Ad}
/-- what the calls with journeys lean on -/
structure Lean5 (P : Program) (w : World) (K : PySem.W.Frag) (mg : Str → Option Value) (base : Heap) (A : Ad) (fC f1 f2 f3 f4 fT fL : Addr) (fdC fd1 fd2 fd3 fd4 : FuncData) : Prop where
  TC_ : TC K mg "Card" A.C fC nCard
  TT : TC K mg "Ticket" A.T fT nTicket
  TL : TC K mg "Leg" A.L fL nLeg
  MC : FnOk P w K mg base CX0 1 fC fdC ["self", "off", "least"] (spI A.C 2 fCard)
  bC : Binds K fdC ["self", "off", "least"] []
  L1 : FnT P w K mg base 1 "is_card" ["card"] (spIsCard A) f1 fd1
  L2 : FnT P w K mg base 2 "is_journey" ["legs"] (spIsJ A.L) f2 fd2
  L3 : FnT P w K mg base 4 "cheapest" ["fares", "card", "legs"] (spCheap A.F A.C A.L A.T) f3 fd3
  L4 : FnT P w K mg base 1 "total_paid" ["tickets"] (spTotal A.T) f4 fd4
/-! ### ask -/
def spAsk (A : Ad) : Sp := fun vs H Q _ => ∃ (o ll : Addr) (D : OffD) (s : Abs) (off least : Nat) (ls : List Kct0.Leg), vs = [.ref o, .int (off : Int), .int (least : Int), .ref ll] ∧ Off A H o D s ∧ LegsAt A.L H ll ls ∧ OffRes A H o D (Kct0.step s (.ask off least ls)) Q
theorem scAsk : FnScope ["self", "off", "least", "legs", "card", "tickets", "answer", "ticket"] ["self", "off", "least", "legs"] (defScope sAsk) := ⟨rfl, rfl, rfl, by decide +kernel, rfl, by decide +kernel, by decide +kernel⟩
theorem ok_ask {f fI fC f1 f2 f3 f4 fT fL : Addr} {fd fdC fd1 fd2 fd3 fd4 : FuncData} (F : Fun K "ask" "Office.ask" sAsk f fd) (T : TC K mg "Office" A.O fI nOff) (G2 : TG2 mg) (Z : Lean5 P w K mg base A fC f1 f2 f3 f4 fT fL fdC fd1 fd2 fd3 fd4) : FnOk P w K mg base CX0 5 f fd ["self", "off", "least", "legs"] (spAsk A) := by
  refine F.ok scAsk (fun vs H Q E h => ?_) (fun cdv A' outer s H vs Q E hr h => ?_)
  · obtain ⟨o, ll, D, s, off, least, ls, rfl, _⟩ := h
    rfl
  · obtain ⟨o, ll, D, st, off, least, ls, rfl, O, hL, k⟩ := h
    have hr1 : Room 1 _ := hr.mono (by decide)
    have hr2 : Room 2 _ := hr.mono (by decide)
    have nd := scAsk.nd
    refine ⟨_, pss_cons (ps_set (i := 4) nd rfl (Or.inl rfl) (pmake Z.TC_ Z.MC Z.bC hr2 (pa_cons (pv 1) (pa_cons (pv 2) pa_nil))))
      (pss_cons (ps_if (PW.pt (pw_or (pt_not (ptru (pcall Z.L1 hr1 (pa_cons (pv 4) pa_nil)))) (pw_or1 (pt_not (ptru (pcall Z.L2 hr2 (pa_cons (pv 3) pa_nil))))))) (pss_one (ps_ret (pe_lst (pa_cons (pgi G2.wrong) pa_nil)))) pss_nil)
      (pss_cons (ps_set (i := 5) nd rfl (Or.inl rfl) (pcall Z.L3 hr (pa_cons (pe_fld (pv 0) rfl) (pa_cons (pv 4) (pa_cons (pv 3) pa_nil)))))
      (pss_cons (ps_if (pt_cmp (pc_isN (pv 5))) (pss_one (ps_ret (pe_lst (pa_cons (pgi G2.noTickets) pa_nil)))) pss_nil)
      (pss_cons (ps_set (i := 6) nd rfl (Or.inl rfl) (pe_lst (pa_cons (pcall Z.L4 hr1 (pa_cons (pv 5) pa_nil)) pa_nil)))
      (pss_cons (ps_for PassesOwn.never rfl (pi_list (pv 5)) (pg_name (i := 7) nd rfl (Or.inl rfl)) (pss_one (ps_expr (pe_bm PySem.F.plainAttrs_list PySem.F.slot_list_extend PySem.F.type_list_extend mt_extend (pv 6) (pa_cons (pe_lst (pa_cons (pe_fld (pv 7) rfl) (pa_cons (pe_fld (pv 7) rfl) pa_nil))) pa_nil)))))
      (pss_one (ps_ret (pv 6)))))))), ?_⟩
    refine asg_s (pu_makeP (us := [.int (off : Int), .int (least : Int)]) (fs := cardF ⟨off, least⟩) (pa_1 pu_v (pa_1 pu_v pa_0)) rfl ⟨⟨off, least⟩, rfl, rfl⟩ fun x dx nx ndx nex => ?_)
    have s1 : Same H (mkI H A.C x dx (cardF ⟨off, least⟩)) := mkI_same nx ndx
    have hx : CardAt A.C (mkI H A.C x dx (cardF ⟨off, least⟩)) x ⟨off, least⟩ := ⟨dx, mkI_at⟩
    generalize mkI H A.C x dx (cardF ⟨off, least⟩) = H1 at s1 hx
    refine if_ss (pst_or (pst_not (pst_bl (psu_pu (pu_isCard (pa_1 pu_v pa_0) hx)))) fun H' s' => pst_not (pst_bl (ps_journey (pa_1 pu_v pa_0) ((hL.same s1).same s')))) (fun H2 s2 hb => ?_) (fun H2 s2 hb => ?_)
    · refine refuse O (s1.trans s2) (k.to ?_)
      have hc : Kct0.isCard off least = false ∨ Kct0.isJourney ls = false := by simpa using hb
      show (if _ then _ else _) = _
      rw [if_pos hc]
    · have hc : ¬ (Kct0.isCard off least = false ∨ Kct0.isJourney ls = false) := by
        intro q
        rcases q with q | q
        · rw [show Kct0.isCard (Kct0.Card.mk off least).off (Kct0.Card.mk off least).least = false from q] at hb
          simp at hb
        · rw [q] at hb
          simp at hb
      have k1 : OffRes A H o D (match Kct0.cheapest st.fares ⟨off, least⟩ ls with | none => (st, .num (-33)) | some p => (st, .some_ p.cost (p.tickets.flatMap fun t => [t.1, t.2]))) Q := k.to (by show (if _ then _ else _) = _; rw [if_neg hc]; cases Kct0.cheapest st.fares ⟨off, least⟩ ls <;> rfl)
      have hcard : off ≤ 100 := by
        have h1 : Kct0.isCard off least = true := by
          cases e : Kct0.isCard off least with
          | true => rfl
          | false => exact absurd (.inl e) hc
        unfold Kct0.isCard at h1
        rw [Bool.and_eq_true] at h1
        exact of_decide_eq_true h1.1
      have hj : Kct0.isJourney ls = true := by
        cases e : Kct0.isJourney ls with
        | true => rfl
        | false => exact absurd (.inr e) hc
      obtain ⟨l1, l16⟩ := journey_len hj
      have s12 := s1.trans s2
      have O2 := O.same s12
      obtain ⟨d0, ho⟩ := O2.at_
      refine asg_s (call_in (pa_1 (pu_fld pu_v ho T.cl (T.f 1) rfl) (pa_1 pu_v (pa_1 pu_v pa_0))) ⟨D.fl, x, ll, st.fares, ⟨off, least⟩, ls, rfl, O2.faresAt, hx.same s2, hcard, O.fok, hL.same s12, l1, l16, fun H3 v s3 hv => ?_⟩)
      have s13 := s12.trans s3
      cases e : Kct0.cheapest st.fares ⟨off, least⟩ ls with
      | none =>
        rw [e] at hv k1
        have hv' : v = .non := hv
        subst hv'
        refine if_s0 (pt_of (pu_isN pu_v)) (fun _ => refuse O s13 k1) (fun z => by cases z)
      | some p =>
        rw [e] at hv k1
        obtain ⟨tl, as, rfl, TN, SO⟩ := hv
        have h16 := SO.few l16
        refine if_s0 (pt_of (pu_isN pu_v)) (fun z => by cases z) (fun _ => ?_)
        refine asg_s (lst_1 (ps_total (pa_1 pu_v pa_0) TN.at_ (by omega) _ fun H4 s4 => ⟨by show 1 ≤ sizeLine; decide, fun ra nra => ?_⟩))
        rw [SO.cost]
        have T4 := TN.at_.same s4
        have s5 : Same H4 (upd H4 ra (.lst [.int (p.cost : Int)])) := same_new nra
        have ntl : tl ≠ ra := ne_of_none T4.1 nra
        refine for_ext (R := TickAt A.T H4) (fun y => [V.int (y.2.fare : Int), V.int (y.2.legs : Int)]) (fun _ => by show 2 ≤ 10; decide) pu_v (s5 _ _ T4.1) T4.2 (by rw [withStart_len]; omega) upd_same (by show 1 ≤ 10; decide) ntl rfl (fun v H' => pu_v) (fun i b y H' hb' hy hR kp => ?_) fun v H' kp hra => ?_
        · obtain ⟨d, hp⟩ := hR
          have hp' := kp _ _ (s5 _ _ hp) (ne_of_none hp nra)
          exact pa_1 (pu_fld pu_v hp' Z.TT.cl (Z.TT.f 0) rfl) (pa_1 (pu_fld pu_v hp' Z.TT.cl (Z.TT.f 2) rfl) pa_0)
        · have nra0 : H ra = none := (s13.trans s4).free nra
          have sF : Same H H' := fun b u e' => kp b u (s5 _ _ ((s13.trans s4) _ _ e')) (ne_of_none e' nra0)
          refine ret_1 pu_v (k1 H' D ra (O.same sF) (Out.same sF) nra0 ?_)
          rw [hra, ws_flat (g := fun x : Sold => [V.int (x.fare : Int), V.int (x.legs : Int)]), sell_flat, tell_some]
          rfl
/-! ### is_time, has_sale -/
def timeOk (s : Abs) (n : Nat) : Bool := decide (¬ (n < s.now ∨ Kct0.LATE ≤ n))
def spIsTime (A : Ad) : Sp := fun vs H Q _ => ∃ (o : Addr) (D : OffD) (s : Abs) (n : Nat), vs = [.ref o, .int (n : Int)] ∧ Off A H o D s ∧ Q (.bl (timeOk s n)) H
theorem scIsTime : FnScope ["self", "now"] ["self", "now"] (defScope sIsTime) := ⟨rfl, rfl, rfl, by decide +kernel, rfl, by decide +kernel, by decide +kernel⟩
theorem ok_isTime {f fI : Addr} {fd : FuncData} (F : Fun K "is_time" "Office.is_time" sIsTime f fd) (T : TC K mg "Office" A.O fI nOff) (G : TG1 mg) : FnOk P w K mg base CX0 1 f fd ["self", "now"] (spIsTime A) := by
  refine F.ok scIsTime (fun vs H Q E h => ?_) (fun cdv A' outer s H vs Q E hr h => ?_)
  · obtain ⟨o, D, s, n, rfl, _⟩ := h
    rfl
  · obtain ⟨o, D, st, n, rfl, O, k⟩ := h
    obtain ⟨d0, ho⟩ := O.at_
    refine ⟨_, pss_one (ps_ret (pe_and (pe_cmpR op_le (pe_fld (pv 0) rfl) (pv 1) (nomark _)) (pe_one (pe_cmpR op_lt (pv 1) (pgi G.late) (nomark _))))), ?_⟩
    refine ret_1 (pu_and (pu_0 (pu_fld pu_v ho T.cl (T.f 3) rfl) pu_v) fun _ => pu_0 pu_v pu_c) ?_
    have e : (decide ((st.now : Int) ≤ (n : Int)) && decide ((n : Int) < 16777216)) = timeOk st n := by
      unfold timeOk Kct0.LATE
      rw [Bool.eq_iff_iff]
      simp only [Bool.and_eq_true, decide_eq_true_iff]
      omega
    rw [e]
    exact k
theorem pu_isTime {ta : TE} {t : TA} {σ : St} {H : Hp} {o : Addr} {D : OffD} {s : Abs} {n : Nat} {E : XK} (ho : Pu ta σ H (.ref o)) (ha : Pa t σ H [.int (n : Int)]) (O : Off A H o D s) : Pu (tMeth A.O "is_time" (spIsTime A) [] E ta t) σ H (.bl (timeOk s n)) := fun Q q =>
  let ⟨_, hd⟩ := O.at_; meth_in ho hd (by rfl) ha ⟨o, D, s, n, rfl, O, q⟩
def hasSale (s : Abs) (k : Nat) : Bool := decide (k < s.trips.length)
def spHasSale (A : Ad) : Sp := fun vs H Q _ => ∃ (o : Addr) (D : OffD) (s : Abs) (n : Nat), vs = [.ref o, .int (n : Int)] ∧ Off A H o D s ∧ Q (.bl (hasSale s n)) H
theorem scHasSale : FnScope ["self", "k"] ["self", "k"] (defScope sHasSale) := ⟨rfl, rfl, rfl, by decide +kernel, rfl, by decide +kernel, by decide +kernel⟩
theorem ok_hasSale {f fI : Addr} {fd : FuncData} (F : Fun K "has_sale" "Office.has_sale" sHasSale f fd) (T : TC K mg "Office" A.O fI nOff) (B : TB mg) : FnOk P w K mg base CX0 1 f fd ["self", "k"] (spHasSale A) := by
  refine F.ok scHasSale (fun vs H Q E h => ?_) (fun cdv A' outer s H vs Q E hr h => ?_)
  · obtain ⟨o, D, s, n, rfl, _⟩ := h
    rfl
  · obtain ⟨o, D, st, n, rfl, O, k⟩ := h
    obtain ⟨d0, ho⟩ := O.at_
    refine ⟨_, pss_one (ps_ret (pe_cmpR op_lt (pv 1) (pe_callB call_len_seq (by rfl) B.len PySem.boot_len (pa_cons (pe_fld (pv 0) rfl) pa_nil)) (nomark _))), ?_⟩
    refine ret_1 (pu_0 pu_v (pu_len (pa_1 (pu_fld pu_v ho T.cl (T.f 2) rfl) pa_0) (SqL.of O.sl_))) ?_
    have e : decide ((n : Int) < ((D.sas.map V.ref).length : Int)) = hasSale st n := by
      rw [List.length_map, O.slen]
      exact dec_lt_nat
    rw [e]
    exact k
theorem pu_hasSale {ta : TE} {t : TA} {σ : St} {H : Hp} {o : Addr} {D : OffD} {s : Abs} {n : Nat} {E : XK} (ho : Pu ta σ H (.ref o)) (ha : Pa t σ H [.int (n : Int)]) (O : Off A H o D s) : Pu (tMeth A.O "has_sale" (spHasSale A) [] E ta t) σ H (.bl (hasSale s n)) := fun Q q =>
  let ⟨_, hd⟩ := O.at_; meth_in ho hd (by rfl) ha ⟨o, D, s, n, rfl, O, q⟩
/-! ### list_tickets -/
def spList (A : Ad) : Sp := fun vs H Q _ => ∃ (o : Addr) (D : OffD) (s : Abs) (n : Nat), vs = [.ref o, .int (n : Int)] ∧ Off A H o D s ∧ OffRes A H o D (Kct0.step s (.tickets n)) Q
theorem scList : FnScope ["self", "k", "sale", "answer", "ticket"] ["self", "k"] (defScope sList) := ⟨rfl, rfl, rfl, by decide +kernel, rfl, by decide +kernel, by decide +kernel⟩
theorem pu_ifE {c : TT} {ta tb : TE} {σ : St} {H : Hp} {b : Bool} {v : V} (hc : Pt c σ H b) (h1 : b = true → Pu ta σ H v) (h2 : b = false → Pu tb σ H v) : Pu (tIf c ta tb) σ H v := fun Q q => hc _ (by
  cases b with
  | true => rw [if_pos rfl]; exact h1 rfl Q q
  | false => rw [if_neg Bool.false_ne_true]; exact h2 rfl Q q)
def tickV (x : Sold) : List V := [.int (x.fare : Int), .int (x.legs : Int), .int (x.paid : Int), .int (if x.back then 1 else 0)]
theorem ok_list {f f1 fI fS fT : Addr} {fd fd1 : FuncData} (F : Fun K "list_tickets" "Office.list_tickets" sList f fd) (T : TC K mg "Office" A.O fI nOff) (TS : TC K mg "Sale" A.Sa fS nSale) (TT : TC K mg "Ticket" A.T fT nTicket) (G2 : TG2 mg) (B : TB mg) (M : MeT P w K mg base 1 A.O "has_sale" ["self", "k"] (spHasSale A) f1 fd1) :
    FnOk P w K mg base CX0 2 f fd ["self", "k"] (spList A) := by
  refine F.ok scList (fun vs H Q E h => ?_) (fun cdv A' outer s H vs Q E hr h => ?_)
  · obtain ⟨o, D, s, n, rfl, _⟩ := h
    rfl
  · obtain ⟨o, D, st, n, rfl, O, k⟩ := h
    obtain ⟨d0, ho⟩ := O.at_
    have nd := scList.nd
    refine ⟨_, pss_cons (ps_if (pt_not (ptru (pe_meth (pv 0) T.cl M.me M.ok hr M.b .nil pass0 (pa_cons (pv 1) pa_nil)))) (pss_one (ps_ret (pe_lst (pa_cons (pgi G2.missing) pa_nil)))) pss_nil)
      (pss_cons (ps_set (i := 2) nd rfl (Or.inl rfl) (pe_ix ix_list (pe_fld (pv 0) rfl) (pv 1) (fun _ _ => rfl)))
      (pss_cons (ps_set (i := 3) nd rfl (Or.inl rfl) (pe_lst (pa_cons (pe_callB call_len_seq (by rfl) B.len PySem.boot_len (pa_cons (pe_fld (pv 2) rfl) pa_nil)) pa_nil)))
      (pss_cons (ps_for PassesOwn.never rfl (pi_list (pe_fld (pv 2) rfl)) (pg_name (i := 4) nd rfl (Or.inl rfl)) (pss_one (ps_expr (pe_bm PySem.F.plainAttrs_list PySem.F.slot_list_extend PySem.F.type_list_extend mt_extend (pv 3) (pa_cons (pe_lst (pa_cons (pe_fld (pv 4) rfl) (pa_cons (pe_fld (pv 4) rfl) (pa_cons (pe_fld (pv 4) rfl) (pa_cons (pe_ifExp (ptru (pe_fld (pv 4) rfl)) pe_int pe_int) pa_nil))))) pa_nil)))))
      (pss_one (ps_ret (pv 3)))))), ?_⟩
    refine if_s0 (pt_not' (pt_bl (pu_hasSale pu_v (pa_1 pu_v pa_0) O))) (fun hb => ?_) (fun hb => ?_)
    · have hb' : ¬ n < st.trips.length := by
        have : hasSale st n = false := by simpa using hb
        exact of_decide_eq_false this
      refine refuse O same_refl (k.to ?_)
      show (match st.trips[n]? with | none => _ | some x => _) = _
      rw [List.getElem?_eq_none (by omega)]
    · have hb' : n < st.trips.length := by
        have : hasSale st n = true := by simpa using hb
        exact of_decide_eq_true this
      obtain ⟨t, ht⟩ : ∃ t, st.trips[n]? = some t := ⟨_, List.getElem?_eq_getElem hb'⟩
      obtain ⟨sa, as, dx, ll, ca, tl, e1, e2, S, ap⟩ := O.sale ht
      have hok := O.tok n t ht
      have h16 := hok.sold
      have k1 : OffRes A H o D (st, .some_ t.sold.length (t.sold.flatMap fun x => [x.fare, x.legs, x.paid, if x.back then 1 else 0])) Q := k.to (by
        show (match st.trips[n]? with | none => _ | some x => _) = _
        rw [ht])
      refine set_s (pu_ixL (pu_fld pu_v ho T.cl (T.f 2) rfl) pu_v (SqL.of O.sl_) (at_v (at_ref e1) rfl)) ?_
      refine asg_s (lst_in (pa_1 (pu_len (pa_1 (pu_fld pu_v S.at_ TS.cl (TS.f 2) rfl) pa_0) (SqL.of S.ticks.1)) pa_0) (by show 1 ≤ sizeLine; decide) fun ra nra => ?_)
      have s5 : Same H (upd H ra (.lst [.int ((as.map V.ref).length : Int)])) := same_new nra
      have ntl : tl ≠ ra := ne_of_none S.ticks.1 nra
      have S5 := S.same s5
      refine for_ext (R := TickAt A.T H) (fun y => tickV y.2) (fun _ => by show 4 ≤ 10; decide) (pu_fld pu_v S5.at_ TS.cl (TS.f 2) rfl) S5.ticks.1 S.ticks.2 (by rw [withStart_len]; omega) upd_same (by show 1 ≤ 10; decide) ntl rfl (fun v H' => pu_v) (fun i b y H' hb' hy hR kp => ?_) fun v H' kp hra => ?_
      · obtain ⟨d, hp⟩ := hR
        have hp' := kp _ _ (s5 _ _ hp) (ne_of_none hp nra)
        refine pa_1 (pu_fld pu_v hp' TT.cl (TT.f 0) rfl) (pa_1 (pu_fld pu_v hp' TT.cl (TT.f 2) rfl) (pa_1 (pu_fld pu_v hp' TT.cl (TT.f 3) rfl) (pa_1 (pu_ifE (pt_bl (pu_fld pu_v hp' TT.cl (TT.f 4) rfl)) (fun z => ?_) (fun z => ?_)) pa_0)))
        · rw [z]; exact pu_c
        · rw [z]; exact pu_c
      · have sF : Same H H' := fun b u e' => kp b u (s5 _ _ e') (ne_of_none e' nra)
        refine ret_1 pu_v (k1 H' D ra (O.same sF) (Out.same sF) nra ?_)
        have e3 : (t.sold.flatMap tickV) = nats (t.sold.flatMap fun x => [x.fare, x.legs, x.paid, if x.back then 1 else 0]) := by
          rw [nats_flat]
          congr 1
          funext x
          unfold tickV
          cases x.back <;> rfl
        rw [hra, ws_flat (g := tickV), e3, tell_some, List.length_map, S.ticks.2.len, withStart_len]
        rfl
end
end LF
end

section
set_option Elab.async false
set_option linter.all false
set_option maxRecDepth 100000
namespace LF
open PySem PySem.Spec PyProof.Rows L2
open Kct0 (Abs Trip Sold)
open Kct0Neutral (tell)
theorem aug_s {K : PySem.W.Frag} {ta tv : TE} {rd : V → V → Hp → VK → Prop} {f : Str} {r : TS} {D : Ends} {σ : St} {H : Hp} {a C dx : Addr} {fs : List (Str × V)} {v y z : V} (ha : Pu ta σ H (.ref a)) (hp : H a = some (.ins C dx fs)) (cl : Cls K C) (n : NoAttr K C f) (l : fs.lookup f = some v)
    (hv : Pu tv σ H y) (hr : ∀ Q : VK, Q z H → rd v y H Q) (hl : fs.length < 1000) (h : r D σ (upd H a (.ins C dx (putF f z fs)))) : tSeq (sFldAug K ta tv rd f) r D σ H := aug_1 (D := { D with nx := r D }) ha hp cl n l hv hr hl h
theorem time_cond {s : Abs} {n : Nat} (h : timeOk s n = false) : n < s.now ∨ Kct0.LATE ≤ n := by
  have := of_decide_eq_false h
  exact Classical.not_not.mp this
theorem time_cond' {s : Abs} {n : Nat} (h : timeOk s n = true) : ¬ (n < s.now ∨ Kct0.LATE ≤ n) := of_decide_eq_true h
theorem sets_out {ls : List Kct0.Leg} {l0 : Kct0.Leg} (h : ls[0]? = some l0) (n : Nat) : Kct0.setsOut ls n = decide (n ≤ l0.dep) := by
  unfold Kct0.setsOut
  cases ls with
  | nil => cases h
  | cons a r => cases h; rfl
section
variable {P : Program} {w : World} {K : PySem.W.Frag} {mg : Str → Option Value} {base : Heap} {A : Ad}
/-! ### buy -/
def spBuy (A : Ad) : Sp := fun vs H Q _ => ∃ (o ll : Addr) (D : OffD) (s : Abs) (off least n : Nat) (ls : List Kct0.Leg), vs = [.ref o, .int (off : Int), .int (least : Int), .int (n : Int), .ref ll] ∧ Off A H o D s ∧ LegsAt A.L H ll ls ∧ ll ≠ D.fl ∧ ll ≠ D.sl ∧ OffRes A H o D (Kct0.step s (.buy off least n ls)) Q
theorem scBuy : FnScope ["self", "off", "least", "now", "legs", "card", "tickets", "cost"] ["self", "off", "least", "now", "legs"] (defScope sBuy) := ⟨rfl, rfl, rfl, by decide +kernel, rfl, by decide +kernel, by decide +kernel⟩
theorem ok_buy {f fI fC f1 f2 f3 f4 fT fL fS fM : Addr} {fd fdC fd1 fd2 fd3 fd4 fdS fdM : FuncData} (F : Fun K "buy" "Office.buy" sBuy f fd) (T : TC K mg "Office" A.O fI nOff) (TS : TC K mg "Sale" A.Sa fS nSale) (G2 : TG2 mg) (B : TB mg) (Z : Lean5 P w K mg base A fC f1 f2 f3 f4 fT fL fdC fd1 fd2 fd3 fd4)
    (MS : FnOk P w K mg base CX0 1 fS fdS ["self", "legs", "card", "tickets"] (spI A.Sa 3 fSale)) (bS : Binds K fdS ["self", "legs", "card", "tickets"] []) (M : MeT P w K mg base 1 A.O "is_time" ["self", "now"] (spIsTime A) fM fdM) : FnOk P w K mg base CX0 5 f fd ["self", "off", "least", "now", "legs"] (spBuy A) := by
  refine F.ok scBuy (fun vs H Q E h => ?_) (fun cdv A' outer s H vs Q E hr h => ?_)
  · obtain ⟨o, ll, D, s, off, least, n, ls, rfl, _⟩ := h
    rfl
  · obtain ⟨o, ll, D, st, off, least, n, ls, rfl, O, hL, nl1, nl2, k⟩ := h
    have hr1 : Room 1 _ := hr.mono (by decide)
    have hr2 : Room 2 _ := hr.mono (by decide)
    have nd := scBuy.nd
    refine ⟨_, pss_cons (ps_if (pt_not (ptru (pe_meth (pv 0) T.cl M.me M.ok hr1 M.b .nil pass0 (pa_cons (pv 3) pa_nil)))) (pss_one (ps_ret (pe_lst (pa_cons (pgi G2.nowWrong) pa_nil)))) pss_nil)
      (pss_cons (ps_set (i := 5) nd rfl (Or.inl rfl) (pmake Z.TC_ Z.MC Z.bC hr2 (pa_cons (pv 1) (pa_cons (pv 2) pa_nil))))
      (pss_cons (ps_if (PW.pt (pw_or (pt_not (ptru (pcall Z.L1 hr1 (pa_cons (pv 5) pa_nil)))) (pw_or1 (pt_not (ptru (pcall Z.L2 hr2 (pa_cons (pv 4) pa_nil))))))) (pss_one (ps_ret (pe_lst (pa_cons (pgi G2.wrong) pa_nil)))) pss_nil)
      (pss_cons (ps_if (pt_cmpR op_lt (pe_fld (pe_ix ix_list (pv 4) pe_int (fun _ _ => rfl)) rfl) (pv 3) (nomark _)) (pss_one (ps_ret (pe_lst (pa_cons (pgi G2.gone) pa_nil)))) pss_nil)
      (pss_cons (ps_set (i := 6) nd rfl (Or.inl rfl) (pcall Z.L3 hr (pa_cons (pe_fld (pv 0) rfl) (pa_cons (pv 5) (pa_cons (pv 4) pa_nil)))))
      (pss_cons (ps_if (pt_cmp (pc_isN (pv 6))) (pss_one (ps_ret (pe_lst (pa_cons (pgi G2.noTickets) pa_nil)))) pss_nil)
      (pss_cons (ps_if (pt_cmpR op_ge (pe_callB call_len_seq (by rfl) B.len PySem.boot_len (pa_cons (pe_fld (pv 0) rfl) pa_nil)) (pgi G2.sales) (nomark _)) (pss_one (ps_ret (pe_lst (pa_cons (pgi G2.full) pa_nil)))) pss_nil)
      (pss_cons (ps_fld (pv 0) (pv 3) rfl)
      (pss_cons (ps_expr (pe_bm PySem.F.plainAttrs_list PySem.F.slot_list_append PySem.F.type_list_append mt_append (pe_fld (pv 0) rfl) (pa_cons (pmake TS MS bS hr2 (pa_cons (pv 4) (pa_cons (pv 5) (pa_cons (pv 6) pa_nil)))) pa_nil)))
      (pss_cons (ps_set (i := 7) nd rfl (Or.inl rfl) (pcall Z.L4 hr1 (pa_cons (pv 6) pa_nil)))
      (pss_cons (ps_fldaug (pv 0) (pv 7) in_add)
      (pss_one (ps_ret (pe_lst (pa_cons (pe_op op_sub (pe_callB call_len_seq (by rfl) B.len PySem.boot_len (pa_cons (pe_fld (pv 0) rfl) pa_nil)) pe_int) (pa_cons (pv 7) pa_nil))))))))))))))), ?_⟩
    -- is_time
    refine if_s0 (pt_not' (pt_bl (pu_isTime pu_v (pa_1 pu_v pa_0) O))) (fun hb => ?_) (fun hb => ?_)
    · exact refuse O same_refl (k.to (by show (if _ then _ else _) = _; rw [if_pos (time_cond (by simpa using hb))]))
    have htm := time_cond' (s := st) (n := n) (by simpa using hb)
    -- card
    refine asg_s (pu_makeP (us := [.int (off : Int), .int (least : Int)]) (fs := cardF ⟨off, least⟩) (pa_1 pu_v (pa_1 pu_v pa_0)) rfl ⟨⟨off, least⟩, rfl, rfl⟩ fun x dx nx ndx nex => ?_)
    have s1 : Same H (mkI H A.C x dx (cardF ⟨off, least⟩)) := mkI_same nx ndx
    have hx : CardAt A.C (mkI H A.C x dx (cardF ⟨off, least⟩)) x ⟨off, least⟩ := ⟨dx, mkI_at⟩
    generalize mkI H A.C x dx (cardF ⟨off, least⟩) = H1 at s1 hx
    refine if_ss (pst_or (pst_not (pst_bl (psu_pu (pu_isCard (pa_1 pu_v pa_0) hx)))) fun H' s' => pst_not (pst_bl (ps_journey (pa_1 pu_v pa_0) ((hL.same s1).same s')))) (fun H2 s2 hb => ?_) (fun H2 s2 hb => ?_)
    · refine refuse O (s1.trans s2) (k.to ?_)
      have hc : Kct0.isCard off least = false ∨ Kct0.isJourney ls = false := by simpa using hb
      show (if _ then _ else if _ then _ else _) = _
      rw [if_neg htm, if_pos hc]
    have hc : ¬ (Kct0.isCard off least = false ∨ Kct0.isJourney ls = false) := by
      intro q
      rcases q with q | q
      · rw [show Kct0.isCard (Kct0.Card.mk off least).off (Kct0.Card.mk off least).least = false from q] at hb
        simp at hb
      · rw [q] at hb
        simp at hb
    have hcard : off ≤ 100 := by
      have h1 : Kct0.isCard off least = true := by
        cases e : Kct0.isCard off least with
        | true => rfl
        | false => exact absurd (.inl e) hc
      unfold Kct0.isCard at h1
      rw [Bool.and_eq_true] at h1
      exact of_decide_eq_true h1.1
    have hj : Kct0.isJourney ls = true := by
      cases e : Kct0.isJourney ls with
      | true => rfl
      | false => exact absurd (.inr e) hc
    obtain ⟨l1, l16⟩ := journey_len hj
    have s12 := s1.trans s2
    have O2 := O.same s12
    obtain ⟨d0, ho⟩ := O2.at_
    have hL2 := hL.same s12
    obtain ⟨las, hll, OL⟩ := hL2
    obtain ⟨l0, hl0⟩ : ∃ l0, ls[0]? = some l0 := ⟨_, List.getElem?_eq_getElem (by omega)⟩
    obtain ⟨b0, hb0, db0, hB0⟩ := OL.get hl0
    have e2 : Kct0.step st (.buy off least n ls) = if Kct0.setsOut ls n = false then (st, .num (-16)) else match Kct0.cheapest st.fares ⟨off, least⟩ ls with
        | none => (st, .num (-33))
        | some p => if Kct0.TRIPS ≤ st.trips.length then (st, .num (-28)) else ({ st with now := n, trips := st.trips ++ [⟨⟨off, least⟩, ls, Kct0.sell st.fares ⟨off, least⟩ p, 0⟩], taken := st.taken + p.cost }, .some_ st.trips.length [p.cost]) := by
      show (if _ then _ else if _ then _ else _) = _
      rw [if_neg htm, if_neg hc]
      cases Kct0.cheapest st.fares ⟨off, least⟩ ls <;> rfl
    rw [e2] at k
    refine if_s0 (pt_of (pu_0 (pu_fld (pu_ixL pu_v pu_c (SqL.of hll) (at_v (j := 0) (at_ref hb0) rfl)) hB0 Z.TL.cl (Z.TL.f 2) rfl) pu_v)) (fun hg => ?_) (fun hg => ?_)
    · have hg' := of_decide_eq_true (show decide ((l0.dep : Int) < (n : Int)) = true from hg)
      exact refuse O s12 (k.to (by rw [if_pos (by rw [sets_out hl0]; exact decide_eq_false (by omega))]))
    have hg' := of_decide_eq_false (show decide ((l0.dep : Int) < (n : Int)) = false from hg)
    have k1 := k.to (by rw [if_neg (by rw [sets_out hl0, decide_eq_true (by omega)]; exact fun q => by cases q)])
    refine asg_s (call_in (pa_1 (pu_fld pu_v ho T.cl (T.f 1) rfl) (pa_1 pu_v (pa_1 pu_v pa_0))) ⟨D.fl, x, ll, st.fares, ⟨off, least⟩, ls, rfl, O2.faresAt, hx.same s2, hcard, O.fok, hL.same s12, l1, l16, fun H3 v s3 hv => ?_⟩)
    have s13 := s12.trans s3
    cases e : Kct0.cheapest st.fares ⟨off, least⟩ ls with
    | none =>
      rw [e] at hv k1
      have hv' : v = .non := hv
      subst hv'
      exact if_s0 (pt_of (pu_isN pu_v)) (fun _ => refuse O s13 k1) (fun z => by cases z)
    | some p =>
      rw [e] at hv k1
      obtain ⟨tl, as, rfl, TN, SO⟩ := hv
      have h16 := SO.few l16
      refine if_s0 (pt_of (pu_isN pu_v)) (fun z => by cases z) (fun _ => ?_)
      have O3 := O.same s13
      obtain ⟨d3, ho3⟩ := O3.at_
      have hlen : ((D.sas.map V.ref).length : Int) = (st.trips.length : Int) := by rw [List.length_map, O.slen]
      refine if_s0 (pt_of (pu_0 (pu_len (pa_1 (pu_fld pu_v ho3 T.cl (T.f 2) rfl) pa_0) (SqL.of O3.sl_)) pu_c)) (fun hf => ?_) (fun hf => ?_)
      · have hf' := of_decide_eq_true (show decide ((64 : Int) ≤ ((D.sas.map V.ref).length : Int)) = true from hf)
        rw [hlen] at hf'
        exact refuse O s13 (k1.to (by show (if _ then _ else _) = _; rw [if_pos (by show 64 ≤ st.trips.length; omega)]))
      have hf' := of_decide_eq_false (show decide ((64 : Int) ≤ ((D.sas.map V.ref).length : Int)) = false from hf)
      rw [hlen] at hf'
      have k2 := k1.to (r' := ({ st with now := n, trips := st.trips ++ [⟨⟨off, least⟩, ls, Kct0.sell st.fares ⟨off, least⟩ p, 0⟩], taken := st.taken + p.cost }, .some_ st.trips.length [p.cost])) (by show (if _ then _ else _) = _; rw [if_neg (by show ¬ 64 ≤ st.trips.length; omega)])
      -- self.now = now
      refine fld_s pu_v pu_v ho3 T.cl (T.f 3) few ?_
      have G4 := O3.setO (s' := { st with now := n }) ho3 rfl rfl
      show tSeq _ _ _ _ (upd H3 o (.ins A.O d3 (offF { st with now := n } D.fl D.sl)))
      have kp4 : Kp H3 (upd H3 o (.ins A.O d3 (offF { st with now := n } D.fl D.sl))) nOff := kp_upd ho3
      generalize upd H3 o (.ins A.O d3 (offF { st with now := n } D.fl D.sl)) = H4 at G4 kp4
      obtain ⟨O4, out4⟩ := G4
      obtain ⟨d4, ho4⟩ := O4.at_
      have out14 : Out H H4 o D D := (Out.same s13).trans out4
      -- self.sales.append(Sale(legs, card, tickets))
      refine app_ofs (pu_fld pu_v ho4 T.cl (T.f 2) rfl) O4.sl_ ?_
      refine pu_makeP (us := [.ref ll, .ref x, .ref tl]) (fs := saleF ll x tl 0) (pa_1 pu_v (pa_1 pu_v (pa_1 pu_v pa_0))) rfl ⟨ll, x, tl, rfl, rfl⟩ fun y dy ny ndy ney => ?_
      have s5 : Same H4 (mkI H4 A.Sa y dy (saleF ll x tl 0)) := mkI_same ny ndy
      have hy : mkI H4 A.Sa y dy (saleF ll x tl 0) y = some (.ins A.Sa dy (saleF ll x tl 0)) := mkI_at
      generalize mkI H4 A.Sa y dy (saleF ll x tl 0) = H5 at s5 hy
      have O5 := O4.same s5
      refine ⟨D.sl, _, _, rfl, rfl, O5.sl_, lt_line (by rw [List.length_map, O.slen]; have := O.few; omega), ?_⟩
      have S5 : SaleIs A H5 y dy ll x tl as ⟨⟨off, least⟩, ls, Kct0.sell st.fares ⟨off, least⟩ p, 0⟩ := ⟨hy, ((hL.same s13).kp kp4 (by decide +kernel) (by decide +kernel)).same s5, (((hx.same s2).same s3).kp kp4 (by decide +kernel)).same s5, (TN.at_.kp kp4 (by decide +kernel) (by decide +kernel)).same s5⟩
      have ap : Apart D ll tl := ⟨nl1, nl2, fun q => (O2.dom D.fl (.inr (.inl rfl))) (by rw [← q]; exact TN.new), fun q => (O2.dom D.sl (.inr (.inr (.inl rfl)))) (by rw [← q]; exact TN.new)⟩
      have hok : TripOk ⟨⟨off, least⟩, ls, Kct0.sell st.fares ⟨off, least⟩ p, 0⟩ := ⟨Nat.zero_le _, l16, SO.legs, SO.pos, hcard, l1⟩
      have G6 := Off.addSale (H0 := H) O.dom (out14.trans (Out.same s5)) O5 (x := y) (out14.dom y ny) S5 ap TN.nd (fun a ha => s12.free (TN.news a ha)) hok (by show st.trips.length < 64; omega)
      have T6 : TicksAt A.T (upd H5 D.sl (.lst (D.sas.map V.ref ++ [.ref y]))) tl as (Kct0.sell st.fares ⟨off, least⟩ p) := S5.ticks.ne (q := D.sl) (fun b u e' hb' => by rw [upd_ne hb']; exact e') ⟨_, O5.sl_⟩ ap.t2
      generalize upd H5 D.sl (.lst (D.sas.map V.ref ++ [.ref y])) = H6 at G6 T6
      obtain ⟨O6, out6⟩ := G6
      -- cost
      refine asg_s (ps_total (pa_1 pu_v pa_0) T6 (by omega) _ fun H7 s7 => ?_)
      rw [SO.cost]
      have O7 := O6.same s7
      obtain ⟨d7, ho7⟩ := O7.at_
      refine aug_s (z := .int ((st.taken + p.cost : Nat) : Int)) pu_v ho7 T.cl (T.f 4) rfl pu_v (fun Q' q' => ⟨_, _, rfl, rfl, q'⟩) few ?_
      have G8 := O7.setO (s' := { st with now := n, trips := st.trips ++ [⟨⟨off, least⟩, ls, Kct0.sell st.fares ⟨off, least⟩ p, 0⟩], taken := st.taken + p.cost }) ho7 rfl rfl
      obtain ⟨d8, ho8⟩ := G8.1.at_
      refine fin k2 G8.1 ((out6.trans (Out.same s7)).trans G8.2) (fun Q' q' => pa_1 (pu_0 (pu_len (pa_1 (pu_fld pu_v ho8 T.cl (T.f 2) rfl) pa_0) (SqL.of G8.1.sl_)) pu_c) (pa_1 pu_v pa_0) _ ?_) (by show 2 ≤ 100000; decide)
      have e9 : (((D.sas ++ [y]).map V.ref).length : Int) - 1 = (st.trips.length : Int) := by
        rw [List.length_map, List.length_append, O.slen]
        show ((st.trips.length + 1 : Nat) : Int) - 1 = _
        omega
      show Q' [.int ((((D.sas ++ [y]).map V.ref).length : Int) - 1), .int (p.cost : Int)] _
      rw [e9]
      exact q'
/-! ### ride -/
theorem ticket_some {t : Trip} (h : TripOk t) (hd : t.done < t.legs.length) : ∃ x, Kct0.ticketOf t.sold t.done = some x := by
  obtain ⟨i, b, p, x, init, _, _, e, _⟩ := begun_last (k := t.done) (List.replicate t.sold.length 0) t.sold 0 (by rw [List.length_replicate]) h.pos (Nat.zero_le _) (by rw [h.sum]; omega)
  exact ⟨x, e⟩
section
variable {ta : TE} {σ : St} {H : Hp} {sa dx ll ca tl : Addr} {as : List Addr} {t : Trip} {E : XK}
theorem pu_left (ho : Pu ta σ H (.ref sa)) (S : SaleIs A H sa dx ll ca tl as t) (hd : t.done ≤ t.legs.length) : Pu (tMeth A.Sa "legs_left" (spLeft A) [] E ta tNil) σ H (.int ((t.legs.length - t.done : Nat) : Int)) := fun Q q => meth_in ho S.at_ (by rfl) pa_0 ⟨sa, dx, ll, ca, tl, as, t, rfl, S, hd, q⟩
theorem pu_nextDep {fL : Addr} {l : Kct0.Leg} (TL : TC K mg "Leg" A.L fL nLeg) (ho : Pu ta σ H (.ref sa)) (S : SaleIs A H sa dx ll ca tl as t) (hl : t.legs[t.done]? = some l) : Pu (tFld K (tMeth A.Sa "next_leg" (spNextLeg A) [] E ta tNil) "dep") σ H (.int (l.dep : Int)) :=
  fun Q q => meth_in (Q := fun x H1 => ∃ a C dx fs v, x = .ref a ∧ H1 a = some (.ins C dx fs) ∧ Cls K C ∧ NoAttr K C (Str.ofString "dep") ∧ fs.lookup (Str.ofString "dep") = some v ∧ Q v H1) ho S.at_ (by rfl) pa_0 ⟨sa, dx, ll, ca, tl, as, t, l, rfl, S, hl, fun b ⟨d, hb⟩ => ⟨b, A.L, d, _, _, rfl, hb, TL.cl, TL.f 2, rfl, q⟩⟩
theorem ps_nextBack {fT : Addr} {x : Sold} (TT : TC K mg "Ticket" A.T fT nTicket) (ho : Pu ta σ H (.ref sa)) (S : SaleIs A H sa dx ll ca tl as t) (hok : TripOk t) (hd : t.done < t.legs.length) (hx : Kct0.ticketOf t.sold t.done = some x) : Psu (tFld K (tMeth A.Sa "next_ticket" (spNextTick A) [] E ta tNil) "given_back") σ H (.bl x.back) :=
  fun Q q => meth_in (Q := fun x H1 => ∃ a C dx fs v, x = .ref a ∧ H1 a = some (.ins C dx fs) ∧ Cls K C ∧ NoAttr K C (Str.ofString "given_back") ∧ fs.lookup (Str.ofString "given_back") = some v ∧ Q v H1) ho S.at_ (by rfl) pa_0 ⟨sa, dx, ll, ca, tl, as, t, rfl, S, hok, hd, fun H' b p y s1 hy ⟨d, hb⟩ => by
    rw [hx] at hy
    cases hy
    exact ⟨b, A.T, d, _, _, rfl, hb, TT.cl, TT.f 4, rfl, q H' s1⟩⟩
end
def spRide (A : Ad) : Sp := fun vs H Q _ => ∃ (o : Addr) (D : OffD) (s : Abs) (k n : Nat), vs = [.ref o, .int (k : Int), .int (n : Int)] ∧ Off A H o D s ∧ OffRes A H o D (Kct0.step s (.ride k n)) Q
theorem scRide : FnScope ["self", "k", "now", "sale"] ["self", "k", "now"] (defScope sRide) := ⟨rfl, rfl, rfl, by decide +kernel, rfl, by decide +kernel, by decide +kernel⟩
theorem ok_ride {f fI fS fT fL fM fN f1 f2 f3 : Addr} {fd fdM fdN fd1 fd2 fd3 : FuncData} (F : Fun K "ride" "Office.ride" sRide f fd) (T : TC K mg "Office" A.O fI nOff) (TS : TC K mg "Sale" A.Sa fS nSale) (TT : TC K mg "Ticket" A.T fT nTicket) (TL : TC K mg "Leg" A.L fL nLeg) (G2 : TG2 mg)
    (M : MeT P w K mg base 1 A.O "is_time" ["self", "now"] (spIsTime A) fM fdM) (N : MeT P w K mg base 1 A.O "has_sale" ["self", "k"] (spHasSale A) fN fdN) (M1 : MeT P w K mg base 1 A.Sa "legs_left" ["self"] (spLeft A) f1 fd1) (M2 : MeT P w K mg base 1 A.Sa "next_leg" ["self"] (spNextLeg A) f2 fd2) (M3 : MeT P w K mg base 1 A.Sa "next_ticket" ["self"] (spNextTick A) f3 fd3) :
    FnOk P w K mg base CX0 2 f fd ["self", "k", "now"] (spRide A) := by
  refine F.ok scRide (fun vs H Q E h => ?_) (fun cdv A' outer s H vs Q E hr h => ?_)
  · obtain ⟨o, D, s, kk, n, rfl, _⟩ := h
    rfl
  · obtain ⟨o, D, st, kk, n, rfl, O, k⟩ := h
    have nd := scRide.nd
    obtain ⟨d0, ho⟩ := O.at_
    refine ⟨_, pss_cons (ps_if (pt_not (ptru (pe_meth (pv 0) T.cl M.me M.ok hr M.b .nil pass0 (pa_cons (pv 2) pa_nil)))) (pss_one (ps_ret (pe_lst (pa_cons (pgi G2.nowWrong) pa_nil)))) pss_nil)
      (pss_cons (ps_if (pt_not (ptru (pe_meth (pv 0) T.cl N.me N.ok hr N.b .nil pass0 (pa_cons (pv 1) pa_nil)))) (pss_one (ps_ret (pe_lst (pa_cons (pgi G2.missing) pa_nil)))) pss_nil)
      (pss_cons (ps_set (i := 3) nd rfl (Or.inl rfl) (pe_ix ix_list (pe_fld (pv 0) rfl) (pv 1) (fun _ _ => rfl)))
      (pss_cons (ps_if (pt_cmpR op_eq (pe_meth0 (pv 3) TS.cl M1.me M1.ok hr M1.b .nil pass0) pe_int (nomark _)) (pss_one (ps_ret (pe_lst (pa_cons (pgi G2.allRidden) pa_nil)))) pss_nil)
      (pss_cons (ps_if (pt_cmpR op_lt (pe_fld (pe_meth0 (pv 3) TS.cl M2.me M2.ok hr M2.b .nil pass0) rfl) (pv 2) (nomark _)) (pss_one (ps_ret (pe_lst (pa_cons (pgi G2.gone) pa_nil)))) pss_nil)
      (pss_cons (ps_if (ptru (pe_fld (pe_meth0 (pv 3) TS.cl M3.me M3.ok hr M3.b .nil pass0) rfl)) (pss_one (ps_ret (pe_lst (pa_cons (pgi G2.given) pa_nil)))) pss_nil)
      (pss_cons (ps_fld (pv 0) (pv 2) rfl)
      (pss_cons (ps_fldaug (pv 3) pe_int in_add)
      (pss_one (ps_ret (pe_lst (pa_cons (pe_meth0 (pv 3) TS.cl M1.me M1.ok hr M1.b .nil pass0) pa_nil))))))))))), ?_⟩
    refine if_s0 (pt_not' (pt_bl (pu_isTime pu_v (pa_1 pu_v pa_0) O))) (fun hb => ?_) (fun hb => ?_)
    · exact refuse O same_refl (k.to (by show (if _ then _ else _) = _; rw [if_pos (time_cond (by simpa using hb))]))
    have htm := time_cond' (s := st) (n := n) (by simpa using hb)
    refine if_s0 (pt_not' (pt_bl (pu_hasSale pu_v (pa_1 pu_v pa_0) O))) (fun hb => ?_) (fun hb => ?_)
    · have hb' : ¬ kk < st.trips.length := by
        have : hasSale st kk = false := by simpa using hb
        exact of_decide_eq_false this
      refine refuse O same_refl (k.to ?_)
      show (if _ then _ else (match st.trips[kk]? with | none => _ | some x => _)) = _
      rw [if_neg htm, List.getElem?_eq_none (by omega)]
    have hb' : kk < st.trips.length := by
      have : hasSale st kk = true := by simpa using hb
      exact of_decide_eq_true this
    obtain ⟨t, ht⟩ : ∃ t, st.trips[kk]? = some t := ⟨_, List.getElem?_eq_getElem hb'⟩
    obtain ⟨sa, as, dx, ll, ca, tl, e1, e2, S, ap⟩ := O.sale ht
    have hok := O.tok kk t ht
    have k0 : OffRes A H o D (match t.legs[t.done]?, Kct0.ticketOf t.sold t.done with
      | some l, some x => if l.dep < n then (st, .num (-16)) else if x.back = true then (st, .num (-1)) else ({ Kct0.setTrip st kk { t with done := t.done + 1 } with now := n }, .num (t.legs.length - (t.done + 1) : Nat))
      | _, _ => (st, .num (-11))) Q := k.to (by
        show (if _ then _ else (match st.trips[kk]? with | none => _ | some x => _)) = _
        rw [if_neg htm, ht]
        dsimp only
        cases t.legs[t.done]? <;> cases Kct0.ticketOf t.sold t.done <;> rfl)
    refine set_s (pu_ixL (pu_fld pu_v ho T.cl (T.f 2) rfl) pu_v (SqL.of O.sl_) (at_v (at_ref e1) rfl)) ?_
    refine if_s0 (pt_of (pu_eq (pu_left pu_v S hok.done) pu_c)) (fun hz => ?_) (fun hz => ?_)
    · have hz' := of_decide_eq_true hz
      have hz2 : ((t.legs.length - t.done : Nat) : Int) = 0 := by injection hz'
      refine refuse O same_refl (k0.to ?_)
      rw [List.getElem?_eq_none (by omega)]
    have hz' := of_decide_eq_false hz
    have hd : t.done < t.legs.length := by
      apply Classical.byContradiction
      intro q
      apply hz'
      have e0 : t.legs.length - t.done = 0 := by omega
      rw [e0]
      rfl
    obtain ⟨l, hl⟩ : ∃ l, t.legs[t.done]? = some l := ⟨_, List.getElem?_eq_getElem hd⟩
    obtain ⟨x, hx⟩ := ticket_some hok hd
    have k1 : OffRes A H o D (if l.dep < n then (st, .num (-16)) else if x.back = true then (st, .num (-1)) else ({ Kct0.setTrip st kk { t with done := t.done + 1 } with now := n }, .num (t.legs.length - (t.done + 1) : Nat))) Q := k0.to (by rw [hl, hx])
    refine if_s0 (pt_of (pu_0 (pu_nextDep TL pu_v S hl) pu_v)) (fun hg => ?_) (fun hg => ?_)
    · have hg' := of_decide_eq_true (show decide ((l.dep : Int) < (n : Int)) = true from hg)
      exact refuse O same_refl (k1.to (by rw [if_pos (by omega)]))
    have hg' := of_decide_eq_false (show decide ((l.dep : Int) < (n : Int)) = false from hg)
    have k2 := k1.to (by rw [if_neg (by omega)])
    refine if_ss (pst_bl (ps_nextBack TT pu_v S hok hd hx)) (fun H1 s1 hbk => ?_) (fun H1 s1 hbk => ?_)
    · exact refuse O s1 (k2.to (by rw [if_pos hbk]))
    have k3 := k2.to (by rw [if_neg (by rw [hbk]; exact fun q => by cases q)])
    have O1 := O.same s1
    obtain ⟨d1, ho1⟩ := O1.at_
    have hS1 := S.same s1
    refine fld_s pu_v pu_v ho1 T.cl (T.f 3) few ?_
    have G4 := O1.setO (s' := { st with now := n }) ho1 rfl rfl
    show tSeq _ _ _ _ (upd H1 o (.ins A.O d1 (offF { st with now := n } D.fl D.sl)))
    have kp4 : Kp H1 (upd H1 o (.ins A.O d1 (offF { st with now := n } D.fl D.sl))) nOff := kp_upd ho1
    generalize upd H1 o (.ins A.O d1 (offF { st with now := n } D.fl D.sl)) = H4 at G4 kp4
    obtain ⟨O4, out4⟩ := G4
    have hsa4 := kp4 _ _ hS1.at_ (n_sale (by decide +kernel))
    refine aug_s (z := .int ((t.done + 1 : Nat) : Int)) pu_v hsa4 TS.cl (TS.f 3) rfl pu_c (fun Q' q' => ⟨_, _, rfl, rfl, q'⟩) few ?_
    have G5 := Off.setSale (H0 := H) (t' := { t with done := t.done + 1 }) (as' := as) (ll' := ll) (tl' := tl) O.dom ((Out.same s1).trans out4) O4 e1 e2 ht hsa4 (hS1.legs.kp kp4 (by decide +kernel) (by decide +kernel)) (hS1.card.kp kp4 (by decide +kernel)) (hS1.ticks.kp kp4 (by decide +kernel) (by decide +kernel)) ap (O.tnd kk as e2) (fun a ha => .inl ha) ⟨by show t.done + 1 ≤ t.legs.length; omega, hok.few, hok.sum, hok.pos, hok.off, hok.one⟩
    have ht5 : (Kct0.setTrip { st with now := n } kk { t with done := t.done + 1 }).trips[kk]? = some { t with done := t.done + 1 } := List.getElem?_set_self hb'
    obtain ⟨sa', as', dx', ll', ca', tl', e1', e2', S', _⟩ := G5.1.sale ht5
    have esa : sa' = sa := Option.some.inj (e1'.symm.trans e1)
    subst esa
    refine fin k3 G5.1 G5.2 (pa_1 (pu_left pu_v S' (by show t.done + 1 ≤ t.legs.length; omega)) pa_0) (by show 1 ≤ 100000; decide)
/-! ### books -/
def spBooks (A : Ad) : Sp := fun vs H Q _ => ∃ (o : Addr) (D : OffD) (s : Abs), vs = [.ref o] ∧ Off A H o D s ∧ OffRes A H o D (Kct0.step s .books) Q
theorem scBooks : FnScope ["self"] ["self"] (defScope sBooks) := ⟨rfl, rfl, rfl, by decide +kernel, rfl, by decide +kernel, by decide +kernel⟩
theorem ok_books {f fI : Addr} {fd : FuncData} (F : Fun K "books" "Office.books" sBooks f fd) (T : TC K mg "Office" A.O fI nOff) : FnOk P w K mg base CX0 1 f fd ["self"] (spBooks A) := by
  refine F.ok scBooks (fun vs H Q E h => ?_) (fun cdv A' outer s H vs Q E hr h => ?_)
  · obtain ⟨o, D, s, rfl, _⟩ := h
    rfl
  · obtain ⟨o, D, st, rfl, O, k⟩ := h
    obtain ⟨d0, ho⟩ := O.at_
    refine ⟨_, pss_one (ps_ret (pe_lst (pa_cons pe_int (pa_cons (pe_fld (pv 0) rfl) (pa_cons (pe_fld (pv 0) rfl) (pa_cons (pe_fld (pv 0) rfl) pa_nil)))))), ?_⟩
    exact fin (k.to (r' := (st, .some_ 0 [st.taken, st.given, st.kept])) rfl) O (Out.same same_refl) (pa_1 pu_c (pa_1 (pu_fld pu_v ho T.cl (T.f 4) rfl) (pa_1 (pu_fld pu_v ho T.cl (T.f 5) rfl) (pa_1 (pu_fld pu_v ho T.cl (T.f 6) rfl) pa_0)))) (by show 4 ≤ 100000; decide)
end
end LF
end

section
set_option Elab.async false
set_option linter.all false
set_option maxRecDepth 100000
namespace LF
open PySem PySem.Spec PyProof.Rows L2
open Kct0 (Abs Trip Sold)
open Kct0Neutral (tell)
/-! ### a loop over what is kept of a list -/
section
variable {β : Type} {f : β → Option V} {Z : List β}
theorem fm_cut (Z : List β) (m : Nat) : Z.filterMap f = (Z.take m).filterMap f ++ (Z.drop m).filterMap f := by
  conv => lhs; rw [← List.take_append_drop m Z]
  rw [List.filterMap_append]
theorem fm_len {m : Nat} {z : β} (hz : Z[m]? = some z) : ((Z.take (m + 1)).filterMap f).length = ((Z.take m).filterMap f).length + (f z).toList.length := by
  rw [take_snoc hz, List.filterMap_append, List.length_append]
  congr 1
theorem adv {Pv : Nat → Prop} (skip : ∀ m z, Z[m]? = some z → f z = none → Pv m → Pv (m + 1)) : ∀ (d m : Nat), Z.length - m = d → Pv m → ∀ (i : Nat) (v : V), ((Z.take m).filterMap f).length = i → (Z.filterMap f)[i]? = some v →
    ∃ m' z, Z[m']? = some z ∧ f z = some v ∧ Pv m' ∧ ((Z.take (m' + 1)).filterMap f).length = i + 1
  | 0, m, hd, p, i, v, hi, hv => by
    rw [fm_cut Z m, List.drop_eq_nil_of_le (by omega), List.filterMap_nil, List.append_nil, ← hi, List.getElem?_eq_none (Nat.le_refl _)] at hv
    cases hv
  | d + 1, m, hd, p, i, v, hi, hv => by
    obtain ⟨z, hz⟩ : ∃ z, Z[m]? = some z := ⟨_, List.getElem?_eq_getElem (by omega)⟩
    have hn := fm_len (f := f) hz
    cases e : f z with
    | none =>
      rw [e] at hn
      exact adv skip d (m + 1) (by omega) (skip m z hz e p) i v (by rw [hn, hi]; rfl) hv
    | some w =>
      rw [e] at hn
      refine ⟨m, z, hz, ?_, p, by rw [hn, hi]; rfl⟩
      rw [fm_cut Z (m + 1), take_snoc hz, List.filterMap_append, List.append_assoc, List.getElem?_append_right (by omega), hi, Nat.sub_self] at hv
      rw [e]
      simpa [e] using hv
theorem adv_end {Pv : Nat → Prop} (skip : ∀ m z, Z[m]? = some z → f z = none → Pv m → Pv (m + 1)) : ∀ (d m : Nat), Z.length - m = d → m ≤ Z.length → Pv m → ((Z.take m).filterMap f).length = (Z.filterMap f).length → Pv Z.length
  | 0, m, hd, hm, p, _ => by
    have e : m = Z.length := by omega
    rw [← e]; exact p
  | d + 1, m, hd, hm, p, h => by
    obtain ⟨z, hz⟩ : ∃ z, Z[m]? = some z := ⟨_, List.getElem?_eq_getElem (by omega)⟩
    have hn := fm_len (f := f) hz
    cases e : f z with
    | none =>
      rw [e] at hn
      exact adv_end skip d (m + 1) (by omega) (by omega) (skip m z hz e p) (by rw [hn, h]; rfl)
    | some w =>
      rw [e] at hn
      have h2 := congrArg List.length (fm_cut (f := f) Z (m + 1))
      rw [List.length_append, hn] at h2
      have h3 : (some w).toList.length = 1 := rfl
      omega
theorem for_fm {K : PySem.W.Frag} {a : Addr} {g : TG} {tb : TS} {D : Ends} {σ : St} {H : Hp} (Pv : Nat → St → Hp → Prop) (h0 : Pv 0 σ H) (hl : ∀ m σ H, Pv m σ H → SqL K H a (Z.filterMap f)) (skip : ∀ m z σ H, Z[m]? = some z → f z = none → Pv m σ H → Pv (m + 1) σ H)
    (hs : ∀ m z v σ H, Z[m]? = some z → f z = some v → Pv m σ H → ∀ N : St → Hp → Prop, (∀ σ' H', Pv (m + 1) σ' H' → N σ' H') → g v σ H fun σ2 H2 => tb { D with nx := N, ct := N, bk := D.nx } σ2 H2) (hd : ∀ σ H, Pv Z.length σ H → D.nx σ H) : ForR (Itl K a) g tb D σ H := by
  refine for_list (K := K) (a := a) (xs := Z.filterMap f) (fun i σ H => ∃ m, m ≤ Z.length ∧ ((Z.take m).filterMap f).length = i ∧ Pv m σ H) ⟨0, Nat.zero_le _, rfl, h0⟩ (fun i σ H _ ⟨m, _, _, p⟩ => hl m σ H p) ?_ ?_
  · rintro i x σ H hi ⟨m, hm, e, p⟩
    obtain ⟨m', z, hz, hf, p', e'⟩ := adv (Pv := fun m => Pv m σ H) (fun m z h1 h2 h3 => skip m z σ H h1 h2 h3) _ m rfl p i x e hi
    exact hs m' z x σ H hz hf p' _ fun σ' H' q => ⟨m' + 1, (List.getElem?_eq_some_iff.mp hz).1, e', q⟩
  · rintro σ H ⟨m, hm, e, p⟩
    exact hd σ H (adv_end (Pv := fun m => Pv m σ H) (fun m z h1 h2 h3 => skip m z σ H h1 h2 h3) _ m rfl hm p e)
end
theorem for_m {K : PySem.W.Frag} {C : Addr} {m : Str} {sp : Sp} {E : XK} {ta : TE} {t : TA} {g : TG} {tb r : TS} {D : Ends} {σ : St} {H : Hp} {us : List V} {a dx : Addr} {fs : List (Str × V)} (ho : Pu ta σ H (.ref a)) (hp : H a = some (.ins C dx fs)) (hn : fs.lookup m = none) (ha : Pa t σ H us)
    (h : sp (.ref a :: us) H (fun x H1 => ∃ l, x = .ref l ∧ (∃ xs, SqL K H1 l xs) ∧ ForR (Itl K l) g tb { D with nx := r D } σ H1) E) : tSeq (tFor (iList K (tMeth C m sp [] E ta t)) g tb) r D σ H := meth_in (Q := fun x H1 => ∃ l, x = .ref l ∧ (∃ xs, SqL K H1 l xs) ∧ ForR (Itl K l) g tb { D with nx := r D } σ H1) ho hp hn ha h
/-! ### one ticket is another one -/
theorem ws_set {x x' : Sold} (hl : x'.legs = x.legs) : ∀ (l : List Sold) (a j p : Nat), (withStart a l)[j]? = some (p, x) → withStart a (l.set j x') = (withStart a l).set j (p, x')
  | [], a, j, p, h => by simp [withStart] at h
  | y :: l, a, 0, p, h => by
    have e : (a, y) = (p, x) := Option.some.inj h
    have e1 : a = p := congrArg Prod.fst e
    have e2 : y = x := congrArg Prod.snd e
    subst e1 e2
    show (a, x') :: withStart (a + x'.legs) l = (a, x') :: withStart (a + y.legs) l
    rw [hl]
  | y :: l, a, j + 1, p, h => by
    show (a, y) :: withStart (a + y.legs) (l.set j x') = (a, y) :: (withStart (a + y.legs) l).set j (p, x')
    rw [ws_set hl l (a + y.legs) j p h]
theorem ws_get : ∀ (l : List Sold) (a j : Nat) (x : Sold), l[j]? = some x → ∃ p, (withStart a l)[j]? = some (p, x)
  | [], a, j, x, h => by simp at h
  | y :: l, a, 0, x, h => ⟨a, by have e : y = x := Option.some.inj h; rw [e]; rfl⟩
  | y :: l, a, j + 1, x, h => ws_get l (a + y.legs) j x h
theorem sum_set {x x' : Sold} (hl : x'.legs = x.legs) : ∀ (l : List Sold) (j : Nat), l[j]? = some x → legsSum (l.set j x') = legsSum l
  | [], j, h => by simp at h
  | y :: l, 0, h => by
    have e : y = x := Option.some.inj h
    subst e
    show legsSum (x' :: l) = _
    rw [cls_sum, cls_sum, hl]
  | y :: l, j + 1, h => by
    show legsSum (y :: l.set j x') = _
    rw [cls_sum, cls_sum, sum_set hl l j h]
theorem Off.setTick {A : Ad} {H : Hp} {o : Addr} {D : OffD} {s : Abs} (h : Off A H o D s) {k j p : Nat} {as : List Addr} {b d : Addr} {x x' : Sold} {t : Trip} (hk : D.tas[k]? = some as) (ht : s.trips[k]? = some t) (hb : as[j]? = some b) (hx : (withStart 0 t.sold)[j]? = some (p, x)) (hx2 : t.sold[j]? = some x) (hd : H b = some (.ins A.T d (tickF (p, x)))) (hl : x'.legs = x.legs) :
    Off A (upd H b (.ins A.T d (tickF (p, x')))) o D (Kct0.setTrip s k { t with sold := t.sold.set j x' }) ∧ Out H (upd H b (.ins A.T d (tickF (p, x')))) o D D := by
  have kp : Kp H (upd H b (.ins A.T d (tickF (p, x')))) nTicket := kp_upd hd
  obtain ⟨d0, ho⟩ := h.at_
  have hkl : k < s.trips.length := (List.getElem?_eq_some_iff.mp ht).1
  refine ⟨⟨⟨d0, kp _ _ ho (n_off (by decide +kernel))⟩, kp _ _ h.fl_ (n_lst (by decide +kernel)), kp _ _ h.sl_ (n_lst (by decide +kernel)), h.ne, h.fares.imp fun _ _ q => q.kp kp (by decide +kernel), h.fnd, ?_, ?_, ?_, h.snd, h.tnd, h.tdis, h.fok, ?_, ?_⟩, ?_⟩
  · show _ = (s.trips.set k _).length
    rw [List.length_set]; exact h.slen
  · show _ = (s.trips.set k _).length
    rw [List.length_set]; exact h.tlen
  · intro i sa bs u h1 h2 h3
    have h3' : (s.trips.set k { t with sold := t.sold.set j x' })[i]? = some u := h3
    by_cases e : i = k
    · subst e
      rw [List.getElem?_set_self hkl] at h3'
      cases h3'
      rw [hk] at h2
      cases h2
      obtain ⟨dx2, ll2, ca2, tl2, S2, ap2⟩ := h.sales i sa as t h1 hk ht
      refine ⟨dx2, ll2, ca2, tl2, ⟨kp _ _ S2.at_ (n_sale (by decide +kernel)), S2.legs.kp kp (by decide +kernel) (by decide +kernel), S2.card.kp kp (by decide +kernel), kp _ _ S2.ticks.1 (n_lst (by decide +kernel)), ?_⟩, ap2⟩
      show Objs _ as (withStart 0 (t.sold.set j x'))
      rw [ws_set hl _ 0 j p hx]
      refine ⟨by rw [List.length_set]; exact S2.ticks.2.len, fun i' a y ha hy => ?_⟩
      by_cases e' : i' = j
      · subst e'
        rw [hb] at ha
        cases ha
        rw [List.getElem?_set_self (List.getElem?_eq_some_iff.mp hx).1] at hy
        cases hy
        exact ⟨d, upd_same⟩
      · rw [List.getElem?_set_ne (Ne.symm e')] at hy
        obtain ⟨d', hd'⟩ := S2.ticks.2.at_ i' a y ha hy
        refine ⟨d', ?_⟩
        rw [upd_ne ?_]
        · exact hd'
        · intro q
          exact e' (nd_ix (h.tnd i as hk) ha (by rw [q]; exact hb))
    · rw [List.getElem?_set_ne (Ne.symm e)] at h3'
      obtain ⟨dx2, ll2, ca2, tl2, S2, ap2⟩ := h.sales i sa bs u h1 h2 h3'
      refine ⟨dx2, ll2, ca2, tl2, ⟨kp _ _ S2.at_ (n_sale (by decide +kernel)), S2.legs.kp kp (by decide +kernel) (by decide +kernel), S2.card.kp kp (by decide +kernel), kp _ _ S2.ticks.1 (n_lst (by decide +kernel)), ⟨S2.ticks.2.len, fun i' a y ha hy => ?_⟩⟩, ap2⟩
      obtain ⟨d', hd'⟩ := S2.ticks.2.at_ i' a y ha hy
      refine ⟨d', ?_⟩
      rw [upd_ne ?_]
      · exact hd'
      · intro q
        exact e (h.tdis i k bs as b h2 hk (by rw [← q]; exact List.mem_of_getElem? ha) (List.mem_of_getElem? hb))
  · intro i u h3
    have h3' : (s.trips.set k { t with sold := t.sold.set j x' })[i]? = some u := h3
    by_cases e : i = k
    · subst e
      rw [List.getElem?_set_self hkl] at h3'
      cases h3'
      have ok := h.tok i t ht
      refine ⟨ok.done, ok.few, by show legsSum (t.sold.set j x') = _; rw [sum_set hl _ j hx2]; exact ok.sum, fun y hy => ?_, ok.off, ok.one⟩
      rcases List.mem_or_eq_of_mem_set hy with z | z
      · exact ok.pos y z
      · rw [z, hl]
        exact ok.pos x (List.mem_of_getElem? hx2)
    · rw [List.getElem?_set_ne (Ne.symm e)] at h3'
      exact h.tok i u h3'
  · show (s.trips.set k _).length ≤ 64
    rw [List.length_set]; exact h.few
  · refine ⟨fun c u e hn => ?_, fun c hc => .inl hc, fun c => dom_upd⟩
    rw [upd_ne ?_]
    · exact e
    · intro q
      exact hn (.inr (.inr (.inr (.inr (.inr ⟨as, List.mem_of_getElem? hk, by rw [q]; exact List.mem_of_getElem? hb⟩)))))
/-! ### the mathematics of giving back -/
def mkB (t : Trip) (n : Nat) (p : Nat × Sold) : Sold := if gives t n p then { p.2 with back := true } else p.2
def soldM (t : Trip) (n m : Nat) : List Sold := ((withStart 0 t.sold).take m).map (mkB t n) ++ ((withStart 0 t.sold).drop m).map (·.2)
def chP (t : Trip) (n m : Nat) : List Nat := (((withStart 0 t.sold).take m).filter (gives t n)).map (·.2.paid)
theorem soldM_0 (t : Trip) (n : Nat) : soldM t n 0 = t.sold := by
  unfold soldM
  rw [List.take_zero, List.drop_zero, withStart_snd]
  rfl
theorem set_mid {α : Type} (x y : α) (B : List α) : ∀ A : List α, (A ++ x :: B).set A.length y = A ++ y :: B
  | [] => rfl
  | a :: A => by
    show a :: (A ++ x :: B).set A.length y = _
    rw [set_mid x y B A]
    rfl
theorem get_mid {α : Type} (x : α) (B : List α) : ∀ A : List α, (A ++ x :: B)[A.length]? = some x
  | [] => rfl
  | a :: A => get_mid x B A
theorem soldM_step {t : Trip} {n m : Nat} {p : Nat × Sold} (h : (withStart 0 t.sold)[m]? = some p) : soldM t n (m + 1) = (soldM t n m).set m (mkB t n p) ∧ (soldM t n m)[m]? = some p.2 := by
  have hm := (List.getElem?_eq_some_iff.mp h).1
  have hd : (withStart 0 t.sold).drop m = p :: (withStart 0 t.sold).drop (m + 1) := by
    rw [List.drop_eq_getElem_cons hm, (List.getElem?_eq_some_iff.mp h).2]
  have hlen : (((withStart 0 t.sold).take m).map (mkB t n)).length = m := by
    rw [List.length_map, List.length_take]
    omega
  constructor
  · unfold soldM
    rw [take_snoc h, hd, List.map_append]
    have e := set_mid p.2 (mkB t n p) (((withStart 0 t.sold).drop (m + 1)).map (·.2)) (((withStart 0 t.sold).take m).map (mkB t n))
    rw [hlen] at e
    show _ ++ [mkB t n p] ++ _ = (_ ++ p.2 :: List.map (fun x : Nat × Sold => x.2) _).set m _
    rw [e, List.append_assoc]
    rfl
  · unfold soldM
    rw [hd, List.map_cons]
    have e := get_mid p.2 (((withStart 0 t.sold).drop (m + 1)).map (·.2)) (((withStart 0 t.sold).take m).map (mkB t n))
    rw [hlen] at e
    exact e
theorem set_self {α : Type} : ∀ {l : List α} {i : Nat} {x : α}, l[i]? = some x → l.set i x = l
  | [], _, _, h => by simp at h
  | a :: l, 0, x, h => by have e : a = x := Option.some.inj h; rw [e]; rfl
  | a :: l, i + 1, x, h => by
    show a :: l.set i x = a :: l
    rw [set_self (l := l) (i := i) (x := x) h]
theorem soldM_skip {t : Trip} {n m : Nat} {p : Nat × Sold} (h : (withStart 0 t.sold)[m]? = some p) (hg : gives t n p = false) : soldM t n (m + 1) = soldM t n m ∧ chP t n (m + 1) = chP t n m := by
  obtain ⟨e1, e2⟩ := soldM_step (n := n) h
  constructor
  · rw [e1, mkB, hg]
    exact set_self e2
  · unfold chP
    rw [take_snoc h, List.filter_append, List.filter_cons, hg]
    simp
theorem chP_step {t : Trip} {n m : Nat} {p : Nat × Sold} (h : (withStart 0 t.sold)[m]? = some p) (hg : gives t n p = true) : chP t n (m + 1) = chP t n m ++ [p.2.paid] := by
  unfold chP
  rw [take_snoc h, List.filter_append, List.filter_cons, hg, List.map_append]
  rfl
theorem sumOf_snoc (l : List Nat) (a : Nat) : Kct0.sumOf (l ++ [a]) = Kct0.sumOf l + a := by
  induction l with
  | nil => show a + 0 = 0 + a; omega
  | cons b l ih =>
    show b + Kct0.sumOf (l ++ [a]) = b + Kct0.sumOf l + a
    rw [ih]
    omega
theorem giveBack_eq {s : Abs} {t : Trip} {n : Nat} (hn : s.now = n) : ∀ (l : List Sold) (a : Nat), Kct0.giveBack s t a l = (withStart a l).map (mkB t n) ∧ Kct0.newlyBack l (Kct0.giveBack s t a l) = ((withStart a l).filter (gives t n)).map (·.2.paid)
  | [], a => ⟨rfl, rfl⟩
  | x :: l, a => by
    obtain ⟨h1, h2⟩ := giveBack_eq hn l (a + x.legs)
    have e : (!x.back && decide (t.done ≤ a) && (t.legs[a]?).any (fun y => decide (s.now < y.dep))) = gives t n (a, x) := by rw [hn]; rfl
    have g1 : Kct0.giveBack s t a (x :: l) = mkB t n (a, x) :: Kct0.giveBack s t (a + x.legs) l := by
      show (if (!x.back && decide (t.done ≤ a) && (t.legs[a]?).any (fun y => decide (s.now < y.dep))) then _ else _) :: _ = _
      rw [e]
      rfl
    refine ⟨by rw [g1, h1]; rfl, ?_⟩
    rw [g1]
    show (if !x.back && (mkB t n (a, x)).back then [x.paid] else []) ++ Kct0.newlyBack l (Kct0.giveBack s t (a + x.legs) l) = (((a, x) :: withStart (a + x.legs) l).filter (gives t n)).map (·.2.paid)
    rw [h2, List.filter_cons]
    cases hg : gives t n (a, x) with
    | true =>
      have hb : x.back = false := by
        unfold gives at hg
        simp only [Bool.and_eq_true, Bool.not_eq_true'] at hg
        exact hg.1.1
      rw [mkB, hg, hb]
      rfl
    | false =>
      rw [mkB, hg]
      show (if !x.back && x.back then [x.paid] else []) ++ _ = _
      cases x.back <;> rfl
theorem sum_parts (fee : Nat) : ∀ l : List Nat, Kct0.sumOf l = Kct0.sumOf (l.map (Kct0.refund fee)) + Kct0.sumOf (l.map fun p => p - Kct0.refund fee p)
  | [] => rfl
  | a :: l => by
    have ih := sum_parts fee l
    show a + Kct0.sumOf l = Kct0.refund fee a + Kct0.sumOf (l.map (Kct0.refund fee)) + (a - Kct0.refund fee a + Kct0.sumOf (l.map fun p => p - Kct0.refund fee p))
    have : Kct0.refund fee a ≤ a := Nat.sub_le _ _
    omega
def gF (t : Trip) (n : Nat) (p : Addr × (Nat × Sold)) : Option V := if gives t n p.2 then some (.ref p.1) else none
theorem toGive_fm (t : Trip) (n : Nat) (as : List Addr) : toGive t n as = (as.zip (withStart 0 t.sold)).filterMap (gF t n) := by
  unfold toGive
  generalize as.zip (withStart 0 t.sold) = Z
  induction Z with
  | nil => rfl
  | cons z Z ih =>
    rw [List.flatMap_cons, ih, List.filterMap_cons]
    unfold gF
    cases gives t n z.2 <;> rfl
theorem max_nat (a b : Nat) : max (0 : Int) ((a : Int) - (b : Int)) = ((a - b : Nat) : Int) := by omega
section
variable {P : Program} {w : World} {K : PySem.W.Frag} {mg : Str → Option Value} {base : Heap} {A : Ad}
/-! ### give_back -/
def spGive (A : Ad) : Sp := fun vs H Q _ => ∃ (o : Addr) (D : OffD) (s : Abs) (k n : Nat), vs = [.ref o, .int (k : Int), .int (n : Int)] ∧ Off A H o D s ∧ OffRes A H o D (Kct0.step s (.back k n)) Q
theorem scGive : FnScope ["self", "k", "now", "sale", "together", "ticket", "amount"] ["self", "k", "now"] (defScope sGive) := ⟨rfl, rfl, rfl, by decide +kernel, rfl, by decide +kernel, by decide +kernel⟩
theorem ok_give {f fI fS fT fM fN f1 : Addr} {fd fdM fdN fd1 : FuncData} (F : Fun K "give_back" "Office.give_back" sGive f fd) (T : TC K mg "Office" A.O fI nOff) (TS : TC K mg "Sale" A.Sa fS nSale) (TT : TC K mg "Ticket" A.T fT nTicket) (G2 : TG2 mg) (B : TB mg)
    (M : MeT P w K mg base 1 A.O "is_time" ["self", "now"] (spIsTime A) fM fdM) (N : MeT P w K mg base 1 A.O "has_sale" ["self", "k"] (spHasSale A) fN fdN) (M1 : MeT P w K mg base 2 A.Sa "tickets_to_give_back" ["self", "now"] (spToGive A) f1 fd1) :
    FnOk P w K mg base CX0 3 f fd ["self", "k", "now"] (spGive A) := by
  refine F.ok scGive (fun vs H Q E h => ?_) (fun cdv A' outer s H vs Q E hr h => ?_)
  · obtain ⟨o, D, s, kk, n, rfl, _⟩ := h
    rfl
  · obtain ⟨o, D, st, kk, n, rfl, O, k⟩ := h
    have nd := scGive.nd
    have hr1 : Room 1 _ := hr.mono (by decide)
    refine ⟨_, pss_cons (ps_if (pt_not (ptru (pe_meth (pv 0) T.cl M.me M.ok hr1 M.b .nil pass0 (pa_cons (pv 2) pa_nil)))) (pss_one (ps_ret (pe_lst (pa_cons (pgi G2.nowWrong) pa_nil)))) pss_nil)
      (pss_cons (ps_if (pt_not (ptru (pe_meth (pv 0) T.cl N.me N.ok hr1 N.b .nil pass0 (pa_cons (pv 1) pa_nil)))) (pss_one (ps_ret (pe_lst (pa_cons (pgi G2.missing) pa_nil)))) pss_nil)
      (pss_cons (ps_fld (pv 0) (pv 2) rfl)
      (pss_cons (ps_set (i := 3) nd rfl (Or.inl rfl) (pe_ix ix_list (pe_fld (pv 0) rfl) (pv 1) (fun _ _ => rfl)))
      (pss_cons (ps_set (i := 4) nd rfl (Or.inl rfl) pe_int)
      (pss_cons (ps_for PassesOwn.never rfl (pi_list (pe_meth (pv 3) TS.cl M1.me M1.ok hr M1.b .nil pass0 (pa_cons (pv 2) pa_nil))) (pg_name (i := 5) nd rfl (Or.inl rfl))
        (pss_cons (ps_fld (pv 5) pe_bl rfl)
        (pss_cons (ps_set (i := 6) nd rfl (Or.inl rfl) (pe_callB (call_max2 rfl) (by rfl) B.max PyProof.Rows.boot_max (pa_cons pe_int (pa_cons (pe_op op_sub (pe_fld (pv 5) rfl) (pe_fld (pv 0) rfl)) pa_nil))))
        (pss_cons (ps_aug (i := 4) nd rfl (Or.inl rfl) (pv 6) ip_add)
        (pss_one (ps_fldaug (pv 0) (pe_op op_sub (pe_fld (pv 5) rfl) (pv 6)) in_add))))))
      (pss_cons (ps_fldaug (pv 0) (pv 4) in_add)
      (pss_one (ps_ret (pe_lst (pa_cons (pv 4) pa_nil)))))))))), ?_⟩
    refine if_s0 (pt_not' (pt_bl (pu_isTime pu_v (pa_1 pu_v pa_0) O))) (fun hb => ?_) (fun hb => ?_)
    · exact refuse O same_refl (k.to (by show (if _ then _ else _) = _; rw [if_pos (time_cond (by simpa using hb))]))
    have htm := time_cond' (s := st) (n := n) (by simpa using hb)
    refine if_s0 (pt_not' (pt_bl (pu_hasSale pu_v (pa_1 pu_v pa_0) O))) (fun hb => ?_) (fun hb => ?_)
    · have hb' : ¬ kk < st.trips.length := by
        have : hasSale st kk = false := by simpa using hb
        exact of_decide_eq_false this
      refine refuse O same_refl (k.to ?_)
      show (if _ then _ else (match st.trips[kk]? with | none => _ | some x => _)) = _
      rw [if_neg htm, List.getElem?_eq_none (by omega)]
    have hb' : kk < st.trips.length := by
      have : hasSale st kk = true := by simpa using hb
      exact of_decide_eq_true this
    obtain ⟨t, ht⟩ : ∃ t, st.trips[kk]? = some t := ⟨_, List.getElem?_eq_getElem hb'⟩
    have hok := O.tok kk t ht
    have k0 : OffRes A H o D ({ st with trips := st.trips.set kk { t with sold := soldM t n t.sold.length }, now := n, given := st.given + Kct0.sumOf ((chP t n t.sold.length).map (Kct0.refund st.fee)), kept := st.kept + Kct0.sumOf ((chP t n t.sold.length).map fun p => p - Kct0.refund st.fee p) }, .num (Kct0.sumOf ((chP t n t.sold.length).map (Kct0.refund st.fee)) : Nat)) Q := k.to (by
      show (if _ then _ else (match st.trips[kk]? with | none => _ | some x => _)) = _
      rw [if_neg htm, ht]
      obtain ⟨g1, g2⟩ := giveBack_eq (s := { st with now := n }) (t := t) (n := n) rfl t.sold 0
      have e1 : soldM t n t.sold.length = Kct0.giveBack { st with now := n } t 0 t.sold := by
        rw [g1]
        unfold soldM
        rw [List.take_of_length_le (by rw [withStart_len]; exact Nat.le_refl _), List.drop_eq_nil_of_le (by rw [withStart_len]; exact Nat.le_refl _)]
        simp
      have e2 : chP t n t.sold.length = Kct0.newlyBack t.sold (Kct0.giveBack { st with now := n } t 0 t.sold) := by
        rw [g2]
        unfold chP
        rw [List.take_of_length_le (by rw [withStart_len]; exact Nat.le_refl _)]
      rw [e1, e2]
      have e3 := sum_parts st.fee (Kct0.newlyBack t.sold (Kct0.giveBack { st with now := n } t 0 t.sold))
      dsimp only
      have e4 : Kct0.sumOf (Kct0.newlyBack t.sold (Kct0.giveBack { st with now := n } t 0 t.sold)) - Kct0.sumOf ((Kct0.newlyBack t.sold (Kct0.giveBack { st with now := n } t 0 t.sold)).map (Kct0.refund st.fee)) = Kct0.sumOf ((Kct0.newlyBack t.sold (Kct0.giveBack { st with now := n } t 0 t.sold)).map fun p => p - Kct0.refund st.fee p) := by omega
      rw [e4]
      rfl)
    obtain ⟨d0, ho⟩ := O.at_
    -- self.now = now
    refine fld_s pu_v pu_v ho T.cl (T.f 3) few ?_
    have G1 := O.setO (s' := { st with now := n }) ho rfl rfl
    show tSeq _ _ _ _ (upd H o (.ins A.O d0 (offF { st with now := n } D.fl D.sl)))
    generalize upd H o (.ins A.O d0 (offF { st with now := n } D.fl D.sl)) = H1 at G1
    obtain ⟨O1, out1⟩ := G1
    obtain ⟨d1, ho1⟩ := O1.at_
    obtain ⟨sa, as, dx, ll, ca, tl, e1, e2, S, ap⟩ := O1.sale (show ({ st with now := n } : Abs).trips[kk]? = some t from ht)
    refine set_s (pu_ixL (pu_fld pu_v ho1 T.cl (T.f 2) rfl) pu_v (SqL.of O1.sl_) (at_v (at_ref e1) rfl)) ?_
    refine set_s pu_c ?_
    refine for_m pu_v S.at_ (by rfl) (pa_1 pu_v pa_0) ⟨sa, dx, ll, ca, tl, as, t, n, rfl, S, hok, fun H2 LD nLD s2 hLD => ⟨LD, rfl, ⟨_, SqL.of hLD⟩, ?_⟩⟩
    rw [toGive_fm] at hLD
    have O2 := O1.same s2
    have hlen : as.length = t.sold.length := by rw [S.ticks.2.len, withStart_len]
    have nms : ¬ D.ms o LD := fun q => O1.dom LD q nLD
    refine for_fm (K := K) (a := LD) (Z := as.zip (withStart 0 t.sold)) (f := gF t n) (fun m σ' H' => ∃ v5 v6, σ' = [some (.ref o), some (.int (kk : Int)), some (.int (n : Int)), some (.ref sa), some (.int ((Kct0.sumOf ((chP t n m).map (Kct0.refund st.fee)) : Nat) : Int)), v5, v6] ∧
        Off A H' o D { st with now := n, trips := st.trips.set kk { t with sold := soldM t n m }, kept := st.kept + Kct0.sumOf ((chP t n m).map fun p => p - Kct0.refund st.fee p) } ∧ Out H2 H' o D D) ?i0 ?il ?isk ?itn ?ied
    case i0 =>
      refine ⟨none, none, rfl, ?_, Out.same same_refl⟩
      rw [soldM_0]
      have e : st.trips.set kk { t with sold := t.sold } = st.trips := set_self ht
      rw [e]
      exact O2
    case il =>
      rintro m σ' H' ⟨v5, v6, rfl, _, out⟩
      exact SqL.of (out.keep _ _ hLD nms)
    case isk =>
      rintro m z σ' H' hz hf ⟨v5, v6, rfl, Om, out⟩
      have hw := (List.getElem?_zip_eq_some.mp (show (as.zip (withStart 0 t.sold))[m]? = some (z.1, z.2) from hz)).2
      have hg : gives t n z.2 = false := by
        unfold gF at hf
        cases e : gives t n z.2 with
        | false => rfl
        | true => rw [e] at hf; cases hf
      obtain ⟨q1, q2⟩ := soldM_skip hw hg
      rw [q1, q2]
      exact ⟨v5, v6, rfl, Om, out⟩
    case itn =>
      rintro m ⟨b, p, x⟩ v σ' H' hz hf ⟨v5, v6, rfl, Om, out⟩ Nn hN
      obtain ⟨hb2, hw⟩ := List.getElem?_zip_eq_some.mp hz
      have hg : gives t n (p, x) = true := by
        unfold gF at hf
        cases e : gives t n (p, x) with
        | true => rfl
        | false => rw [e] at hf; cases hf
      have hv : v = .ref b := by
        unfold gF at hf
        rw [hg] at hf
        exact (Option.some.inj hf).symm
      subst hv
      obtain ⟨q1, q2⟩ := soldM_step (n := n) hw
      have q3 := chP_step (n := n) hw hg
      have hmk : mkB t n (p, x) = { x with back := true } := by rw [mkB, hg]; rfl
      rw [hmk] at q1
      have htm2 : ({ st with now := n, trips := st.trips.set kk { t with sold := soldM t n m }, kept := st.kept + Kct0.sumOf ((chP t n m).map fun p => p - Kct0.refund st.fee p) } : Abs).trips[kk]? = some { t with sold := soldM t n m } := List.getElem?_set_self hb'
      obtain ⟨sa3, as3, dx3, ll3, ca3, tl3, e13, e23, S3, _⟩ := Om.sale htm2
      have eas : as3 = as := Option.some.inj (e23.symm.trans e2)
      subst eas
      obtain ⟨p3, hp3⟩ := ws_get (soldM t n m) 0 m x q2
      obtain ⟨d3, hb3⟩ := S3.ticks.2.at_ m b (p3, x) hb2 hp3
      show tSeq (sFld _ _ _ _) _ _ _ _
      refine fld_s pu_c pu_v hb3 TT.cl (TT.f 4) few ?_
      have G4 := Om.setTick (x' := { x with back := true }) e23 htm2 hb2 hp3 q2 hb3 rfl
      show tSeq _ _ _ _ (upd H' b (.ins A.T d3 (tickF (p3, { x with back := true }))))
      have hb4 : upd H' b (.ins A.T d3 (tickF (p3, { x with back := true }))) b = some (.ins A.T d3 (tickF (p3, { x with back := true }))) := upd_same
      generalize upd H' b (.ins A.T d3 (tickF (p3, { x with back := true }))) = H4 at G4 hb4
      obtain ⟨O4, out4⟩ := G4
      obtain ⟨d4, ho4⟩ := O4.at_
      refine set_s (v := .int ((Kct0.refund st.fee x.paid : Nat) : Int)) (fun Q' q' => pu_max (pa_1 pu_c (pa_1 (pu_0 (pu_fld pu_v hb4 TT.cl (TT.f 3) rfl) (pu_fld pu_v ho4 T.cl (T.f 0) rfl)) pa_0)) _ (by
        show Q' (.int (max (0 : Int) ((x.paid : Int) - (st.fee : Int)))) _
        rw [max_nat]
        exact q')) ?_
      refine ⟨_, rfl, _, rfl, _, _, rfl, rfl, ?_⟩
      have hle : Kct0.refund st.fee x.paid ≤ x.paid := Nat.sub_le _ _
      refine aug_1 (y := .int ((x.paid - Kct0.refund st.fee x.paid : Nat) : Int)) (z := .int ((st.kept + Kct0.sumOf ((chP t n m).map fun p => p - Kct0.refund st.fee p) + (x.paid - Kct0.refund st.fee x.paid) : Nat) : Int)) pu_v ho4 T.cl (T.f 6) rfl (fun Q' q' => pu_0 (pu_fld pu_v hb4 TT.cl (TT.f 3) rfl) pu_v _ (by
        show Q' (.int ((x.paid : Int) - ((Kct0.refund st.fee x.paid : Nat) : Int))) _
        rw [show (x.paid : Int) - ((Kct0.refund st.fee x.paid : Nat) : Int) = ((x.paid - Kct0.refund st.fee x.paid : Nat) : Int) from by omega]
        exact q')) (fun Q' q' => ⟨_, _, rfl, rfl, q'⟩) few ?_
      have G5 := O4.setO (s' := { st with now := n, trips := (st.trips.set kk { t with sold := soldM t n m }).set kk { t with sold := (soldM t n m).set m { x with back := true } }, kept := st.kept + Kct0.sumOf ((chP t n m).map fun p => p - Kct0.refund st.fee p) + (x.paid - Kct0.refund st.fee x.paid) }) ho4 rfl rfl
      refine hN _ _ ⟨some (.ref b), some (.int ((Kct0.refund st.fee x.paid : Nat) : Int)), ?_, ?_, out.trans (out4.trans G5.2)⟩
      · rw [q3, List.map_append, List.map_cons, List.map_nil, sumOf_snoc]
        rfl
      · have G51 := G5.1
        rw [q1, q3, List.map_append, List.map_cons, List.map_nil, sumOf_snoc, ← Nat.add_assoc]
        rw [List.set_set] at G51
        exact G51
    case ied =>
      rintro σ' H' ⟨v5, v6, rfl, Om, out⟩
      have hZ : (as.zip (withStart 0 t.sold)).length = t.sold.length := by rw [List.length_zip, withStart_len, hlen, Nat.min_self]
      rw [hZ] at Om ⊢
      obtain ⟨d9, ho9⟩ := Om.at_
      refine aug_s (z := .int ((st.given + Kct0.sumOf ((chP t n t.sold.length).map (Kct0.refund st.fee)) : Nat) : Int)) pu_v ho9 T.cl (T.f 5) rfl pu_v (fun Q' q' => ⟨_, _, rfl, rfl, q'⟩) few ?_
      have G9 := Om.setO (s' := { st with trips := st.trips.set kk { t with sold := soldM t n t.sold.length }, now := n, given := st.given + Kct0.sumOf ((chP t n t.sold.length).map (Kct0.refund st.fee)), kept := st.kept + Kct0.sumOf ((chP t n t.sold.length).map fun p => p - Kct0.refund st.fee p) }) ho9 rfl rfl
      exact fin k0 G9.1 ((out1.trans (Out.same s2)).trans (out.trans G9.2)) (pa_1 pu_v pa_0) (by show 1 ≤ 100000; decide)
end
end LF
end

section
set_option Elab.async false
set_option linter.all false
set_option maxRecDepth 100000
namespace LF
open PySem PySem.Spec PyProof.Rows L2
open Kct0 (Abs Trip Sold)
open Kct0Neutral (tell)
theorem psu_0 {ta tb : TE} {σ : St} {H : Hp} {i j : Int} {g : Int → Int → V} (ha : Psu ta σ H (.int i)) (hb : ∀ H', Same H H' → Psu tb σ H' (.int j)) : Psu (tOp (rI0 g) ta tb) σ H (g i j) := fun Q q => ha _ fun H1 s1 => hb H1 s1 _ fun H2 s2 => ⟨i, j, rfl, rfl, q H2 (s1.trans s2)⟩
theorem held_all : ∀ l : List Sold, l.any Kct0.Sold.back = false → Kct0.held l = paidSum l
  | [], _ => rfl
  | x :: l, h => by
    rw [List.any_cons, Bool.or_eq_false_iff] at h
    have ih := held_all l h.2
    show (if x.back then 0 else x.paid) + Kct0.held l = x.paid + paidSum l
    rw [h.1, ih]
    rfl
section
variable {P : Program} {w : World} {K : PySem.W.Frag} {mg : Str → Option Value} {base : Heap} {A : Ad}
theorem ps_touched {ta : TE} {σ : St} {H : Hp} {sa dx ll ca tl : Addr} {as : List Addr} {t : Trip} {E : XK} (ho : Pu ta σ H (.ref sa)) (S : SaleIs A H sa dx ll ca tl as t) (hl : t.sold.length ≤ 100) : Psu (tMeth A.Sa "is_touched" (spTouched A) [] E ta tNil) σ H (.bl (touched t)) := fun Q q => meth_in ho S.at_ (by rfl) pa_0 ⟨sa, dx, ll, ca, tl, as, t, rfl, S, hl, q⟩
/-! ### change -/
def spChange (A : Ad) : Sp := fun vs H Q _ => ∃ (o ll : Addr) (D : OffD) (s : Abs) (k n : Nat) (ls : List Kct0.Leg), vs = [.ref o, .int (k : Int), .int (n : Int), .ref ll] ∧ Off A H o D s ∧ LegsAt A.L H ll ls ∧ ll ≠ D.fl ∧ ll ≠ D.sl ∧ OffRes A H o D (Kct0.step s (.change k n ls)) Q
theorem scChange : FnScope ["self", "k", "now", "legs", "sale", "tickets", "more", "due"] ["self", "k", "now", "legs"] (defScope sChange) := ⟨rfl, rfl, rfl, by decide +kernel, rfl, by decide +kernel, by decide +kernel⟩
theorem ok_change {f fI fC f1 f2 f3 f4 fT fL fS fM fN fA fE : Addr} {fd fdC fd1 fd2 fd3 fd4 fdM fdN fdA fdE : FuncData} (F : Fun K "change" "Office.change" sChange f fd) (T : TC K mg "Office" A.O fI nOff) (TS : TC K mg "Sale" A.Sa fS nSale) (G2 : TG2 mg) (B : TB mg) (Z : Lean5 P w K mg base A fC f1 f2 f3 f4 fT fL fdC fd1 fd2 fd3 fd4)
    (M : MeT P w K mg base 1 A.O "is_time" ["self", "now"] (spIsTime A) fM fdM) (N : MeT P w K mg base 1 A.O "has_sale" ["self", "k"] (spHasSale A) fN fdN) (M1 : MeT P w K mg base 1 A.Sa "is_touched" ["self"] (spTouched A) fA fdA) (M2 : MeT P w K mg base 1 A.Sa "exchange" ["self", "legs", "tickets"] (spExch A) fE fdE) :
    FnOk P w K mg base CX0 5 f fd ["self", "k", "now", "legs"] (spChange A) := by
  refine F.ok scChange (fun vs H Q E h => ?_) (fun cdv A' outer s H vs Q E hr h => ?_)
  · obtain ⟨o, ll, D, s, kk, n, ls, rfl, _⟩ := h
    rfl
  · obtain ⟨o, nl, D, st, kk, n, ls, rfl, O, hL, nl1, nl2, k⟩ := h
    have hr1 : Room 1 _ := hr.mono (by decide)
    have hr2 : Room 2 _ := hr.mono (by decide)
    have nd := scChange.nd
    obtain ⟨d0, ho⟩ := O.at_
    refine ⟨_, pss_cons (ps_if (pt_not (ptru (pe_meth (pv 0) T.cl M.me M.ok hr1 M.b .nil pass0 (pa_cons (pv 2) pa_nil)))) (pss_one (ps_ret (pe_lst (pa_cons (pgi G2.nowWrong) pa_nil)))) pss_nil)
      (pss_cons (ps_if (pt_not (ptru (pe_meth (pv 0) T.cl N.me N.ok hr1 N.b .nil pass0 (pa_cons (pv 1) pa_nil)))) (pss_one (ps_ret (pe_lst (pa_cons (pgi G2.missing) pa_nil)))) pss_nil)
      (pss_cons (ps_set (i := 4) nd rfl (Or.inl rfl) (pe_ix ix_list (pe_fld (pv 0) rfl) (pv 1) (fun _ _ => rfl)))
      (pss_cons (ps_if (ptru (pe_meth0 (pv 4) TS.cl M1.me M1.ok hr1 M1.b .nil pass0)) (pss_one (ps_ret (pe_lst (pa_cons (pgi G2.touched) pa_nil)))) pss_nil)
      (pss_cons (ps_if (pt_not (ptru (pcall Z.L2 hr2 (pa_cons (pv 3) pa_nil)))) (pss_one (ps_ret (pe_lst (pa_cons (pgi G2.wrong) pa_nil)))) pss_nil)
      (pss_cons (ps_if (pt_cmpR op_lt (pe_fld (pe_ix ix_list (pv 3) pe_int (fun _ _ => rfl)) rfl) (pv 2) (nomark _)) (pss_one (ps_ret (pe_lst (pa_cons (pgi G2.gone) pa_nil)))) pss_nil)
      (pss_cons (ps_set (i := 5) nd rfl (Or.inl rfl) (pcall Z.L3 hr (pa_cons (pe_fld (pv 0) rfl) (pa_cons (pe_fld (pv 4) rfl) (pa_cons (pv 3) pa_nil)))))
      (pss_cons (ps_if (pt_cmp (pc_isN (pv 5))) (pss_one (ps_ret (pe_lst (pa_cons (pgi G2.noTickets) pa_nil)))) pss_nil)
      (pss_cons (ps_fld (pv 0) (pv 2) rfl)
      (pss_cons (ps_set (i := 6) nd rfl (Or.inl rfl) (pe_op op_sub (pcall Z.L4 hr1 (pa_cons (pv 5) pa_nil)) (pcall Z.L4 hr1 (pa_cons (pe_fld (pv 4) rfl) pa_nil))))
      (pss_cons (ps_set (i := 7) nd rfl (Or.inl rfl) (pe_op op_add (pe_fld (pv 0) rfl) (pe_callB (call_max2 rfl) (by rfl) B.max PyProof.Rows.boot_max (pa_cons pe_int (pa_cons (pv 6) pa_nil)))))
      (pss_cons (ps_fldaug (pv 0) (pv 7) in_add)
      (pss_cons (ps_fldaug (pv 0) (pe_op op_add (pe_fld (pv 0) rfl) (pe_callB (call_max2 rfl) (by rfl) B.max PyProof.Rows.boot_max (pa_cons pe_int (pa_cons (pe_un un_neg (pv 6)) pa_nil)))) in_add)
      (pss_cons (ps_expr (pe_meth (pv 4) TS.cl M2.me M2.ok hr1 M2.b .nil pass0 (pa_cons (pv 3) (pa_cons (pv 5) pa_nil))))
      (pss_one (ps_ret (pe_lst (pa_cons (pv 7) pa_nil))))))))))))))))), ?_⟩
    refine if_s0 (pt_not' (pt_bl (pu_isTime pu_v (pa_1 pu_v pa_0) O))) (fun hb => ?_) (fun hb => ?_)
    · exact refuse O same_refl (k.to (by show (if _ then _ else _) = _; rw [if_pos (time_cond (by simpa using hb))]))
    have htm := time_cond' (s := st) (n := n) (by simpa using hb)
    refine if_s0 (pt_not' (pt_bl (pu_hasSale pu_v (pa_1 pu_v pa_0) O))) (fun hb => ?_) (fun hb => ?_)
    · have hb' : ¬ kk < st.trips.length := by
        have : hasSale st kk = false := by simpa using hb
        exact of_decide_eq_false this
      refine refuse O same_refl (k.to ?_)
      show (if _ then _ else (match st.trips[kk]? with | none => _ | some x => _)) = _
      rw [if_neg htm, List.getElem?_eq_none (by omega)]
    have hb' : kk < st.trips.length := by
      have : hasSale st kk = true := by simpa using hb
      exact of_decide_eq_true this
    obtain ⟨t, ht⟩ : ∃ t, st.trips[kk]? = some t := ⟨_, List.getElem?_eq_getElem hb'⟩
    obtain ⟨sa, as, dx, ll, ca, tl, e1, e2, S, ap⟩ := O.sale ht
    have hok := O.tok kk t ht
    have hs16 := hok.sold
    have k0 : OffRes A H o D (if t.done ≠ 0 ∨ t.sold.any Kct0.Sold.back = true then (st, .num (-17)) else if Kct0.isJourney ls = false then (st, .num (-22)) else if Kct0.setsOut ls n = false then (st, .num (-16)) else match Kct0.cheapest st.fares t.card ls with
      | none => (st, .num (-33))
      | some p => ({ Kct0.setTrip st kk ⟨t.card, ls, Kct0.sell st.fares t.card p, 0⟩ with now := n, taken := st.taken + (p.cost - Kct0.held t.sold) + st.fee, kept := st.kept + st.fee + (Kct0.held t.sold - p.cost) }, .num ((p.cost - Kct0.held t.sold) + st.fee : Nat))) Q := k.to (by
        show (if _ then _ else (match st.trips[kk]? with | none => _ | some x => _)) = _
        rw [if_neg htm, ht]
        dsimp only
        cases Kct0.cheapest st.fares t.card ls <;> rfl)
    refine set_s (pu_ixL (pu_fld pu_v ho T.cl (T.f 2) rfl) pu_v (SqL.of O.sl_) (at_v (at_ref e1) rfl)) ?_
    -- touched
    refine if_ss (pst_bl (ps_touched pu_v S (by omega))) (fun H1 s1 hb => ?_) (fun H1 s1 hb => ?_)
    · unfold touched at hb
      rw [Bool.or_eq_true, decide_eq_true_iff] at hb
      exact refuse O s1 (k0.to (by rw [if_pos hb]))
    have hnt : ¬ (t.done ≠ 0 ∨ t.sold.any Kct0.Sold.back = true) := by
      unfold touched at hb
      rw [Bool.or_eq_false_iff, decide_eq_false_iff_not] at hb
      rintro (q | q)
      · exact hb.1 q
      · rw [hb.2] at q; cases q
    have hd0 : t.done = 0 := by
      apply Classical.byContradiction
      intro q
      exact hnt (.inl q)
    have hnb : t.sold.any Kct0.Sold.back = false := by
      cases e : t.sold.any Kct0.Sold.back with
      | false => rfl
      | true => exact absurd (.inr e) hnt
    have k1 := k0.to (by rw [if_neg hnt])
    -- journey
    refine if_ss (pst_not (pst_bl (ps_journey (pa_1 pu_v pa_0) (hL.same s1)))) (fun H2 s2 hb => ?_) (fun H2 s2 hb => ?_)
    · exact refuse O (s1.trans s2) (k1.to (by rw [if_pos (by simpa using hb)]))
    have hj : Kct0.isJourney ls = true := by simpa using hb
    have k2 := k1.to (by rw [if_neg (by rw [hj]; exact fun q => by cases q)])
    obtain ⟨l1, l16⟩ := journey_len hj
    have s12 := s1.trans s2
    have O2 := O.same s12
    have S2 := S.same s12
    obtain ⟨d2, ho2⟩ := O2.at_
    obtain ⟨las, hll, OL⟩ := hL.same s12
    obtain ⟨l0, hl0⟩ : ∃ l0, ls[0]? = some l0 := ⟨_, List.getElem?_eq_getElem (by omega)⟩
    obtain ⟨b0, hb0, db0, hB0⟩ := OL.get hl0
    refine if_s0 (pt_of (pu_0 (pu_fld (pu_ixL pu_v pu_c (SqL.of hll) (at_v (j := 0) (at_ref hb0) rfl)) hB0 Z.TL.cl (Z.TL.f 2) rfl) pu_v)) (fun hg => ?_) (fun hg => ?_)
    · have hg' := of_decide_eq_true (show decide ((l0.dep : Int) < (n : Int)) = true from hg)
      exact refuse O s12 (k2.to (by rw [if_pos (by rw [sets_out hl0]; exact decide_eq_false (by omega))]))
    have hg' := of_decide_eq_false (show decide ((l0.dep : Int) < (n : Int)) = false from hg)
    have k3 := k2.to (by rw [if_neg (by rw [sets_out hl0, decide_eq_true (by omega)]; exact fun q => by cases q)])
    refine asg_s (call_in (pa_1 (pu_fld pu_v ho2 T.cl (T.f 1) rfl) (pa_1 (pu_fld pu_v S2.at_ TS.cl (TS.f 1) rfl) (pa_1 pu_v pa_0))) ⟨D.fl, ca, nl, st.fares, t.card, ls, rfl, O2.faresAt, S2.card, hok.off, O.fok, hL.same s12, l1, l16, fun H3 v s3 hv => ?_⟩)
    have s13 := s12.trans s3
    cases e : Kct0.cheapest st.fares t.card ls with
    | none =>
      rw [e] at hv k3
      have hv' : v = .non := hv
      subst hv'
      exact if_s0 (pt_of (pu_isN pu_v)) (fun _ => refuse O s13 k3) (fun z => by cases z)
    | some p =>
      rw [e] at hv k3
      obtain ⟨ntl, nas, rfl, TN, SO⟩ := hv
      have h16 := SO.few l16
      refine if_s0 (pt_of (pu_isN pu_v)) (fun z => by cases z) (fun _ => ?_)
      have O3 := O.same s13
      have S3 := S.same s13
      obtain ⟨d3, ho3⟩ := O3.at_
      -- self.now = now
      refine fld_s pu_v pu_v ho3 T.cl (T.f 3) few ?_
      have G4 := O3.setO (s' := { st with now := n }) ho3 rfl rfl
      show tSeq _ _ _ _ (upd H3 o (.ins A.O d3 (offF { st with now := n } D.fl D.sl)))
      have kp4 : Kp H3 (upd H3 o (.ins A.O d3 (offF { st with now := n } D.fl D.sl))) nOff := kp_upd ho3
      generalize upd H3 o (.ins A.O d3 (offF { st with now := n } D.fl D.sl)) = H4 at G4 kp4
      obtain ⟨O4, out4⟩ := G4
      have S4 : SaleIs A H4 sa dx ll ca tl as t := ⟨kp4 _ _ S3.at_ (n_sale (by decide +kernel)), S3.legs.kp kp4 (by decide +kernel) (by decide +kernel), S3.card.kp kp4 (by decide +kernel), S3.ticks.kp kp4 (by decide +kernel) (by decide +kernel)⟩
      have T4 := TN.at_.kp kp4 (by decide +kernel) (by decide +kernel)
      have L4 := (hL.same s13).kp kp4 (by decide +kernel) (by decide +kernel)
      have out14 : Out H H4 o D D := (Out.same s13).trans out4
      -- more
      refine asg_s (psu_0 (ps_total (pa_1 pu_v pa_0) T4 (by omega)) (fun H' s' => ps_total (pa_1 (pu_fld pu_v (s' _ _ S4.at_) TS.cl (TS.f 2) rfl) pa_0) (S4.ticks.same s') (by omega)) _ fun H5 s5 => ?_)
      rw [SO.cost, ← held_all t.sold hnb]
      have O5 := O4.same s5
      have S5 := S4.same s5
      obtain ⟨d5, ho5⟩ := O5.at_
      -- due
      have ed : (st.fee : Int) + max (0 : Int) ((p.cost : Int) - ((Kct0.held t.sold : Nat) : Int)) = ((p.cost - Kct0.held t.sold + st.fee : Nat) : Int) := by
        rw [max_nat]
        omega
      refine set_s (v := .int ((p.cost - Kct0.held t.sold + st.fee : Nat) : Int)) (fun Q' q' => pu_0 (pu_fld pu_v ho5 T.cl (T.f 0) rfl) (pu_max (pa_1 pu_c (pa_1 pu_v pa_0))) _ (by
        show Q' (.int ((st.fee : Int) + max (0 : Int) ((p.cost : Int) - ((Kct0.held t.sold : Nat) : Int)))) _
        rw [ed]
        exact q')) ?_
      -- self.taken += due
      refine aug_s (z := .int ((st.taken + (p.cost - Kct0.held t.sold + st.fee) : Nat) : Int)) pu_v ho5 T.cl (T.f 4) rfl pu_v (fun Q' q' => ⟨_, _, rfl, rfl, q'⟩) few ?_
      have G6 := O5.setO (s' := { st with now := n, taken := st.taken + (p.cost - Kct0.held t.sold + st.fee) }) ho5 rfl rfl
      show tSeq _ _ _ _ (upd H5 o (.ins A.O d5 (offF { st with now := n, taken := st.taken + (p.cost - Kct0.held t.sold + st.fee) } D.fl D.sl)))
      have kp6 : Kp H5 (upd H5 o (.ins A.O d5 (offF { st with now := n, taken := st.taken + (p.cost - Kct0.held t.sold + st.fee) } D.fl D.sl))) nOff := kp_upd ho5
      generalize upd H5 o (.ins A.O d5 (offF { st with now := n, taken := st.taken + (p.cost - Kct0.held t.sold + st.fee) } D.fl D.sl)) = H6 at G6 kp6
      obtain ⟨O6, out6⟩ := G6
      obtain ⟨d6, ho6⟩ := O6.at_
      -- self.kept += ..
      have ek : (st.fee : Int) + max (0 : Int) (-((p.cost : Int) - ((Kct0.held t.sold : Nat) : Int))) = ((st.fee + (Kct0.held t.sold - p.cost) : Nat) : Int) := by
        have := max_nat (Kct0.held t.sold) p.cost
        omega
      refine aug_s (y := .int ((st.fee + (Kct0.held t.sold - p.cost) : Nat) : Int)) (z := .int ((st.kept + (st.fee + (Kct0.held t.sold - p.cost)) : Nat) : Int)) pu_v ho6 T.cl (T.f 6) rfl ?hv (fun Q' q' => ⟨_, _, rfl, rfl, q'⟩) few ?_
      case hv =>
        intro Q' q'
        refine pu_0 (pu_fld pu_v ho6 T.cl (T.f 0) rfl) (pu_max (pa_1 pu_c (pa_1 (pu_U (g := fun i => V.int (-i)) (i := (p.cost : Int) - ((Kct0.held t.sold : Nat) : Int)) pu_v) pa_0))) _ ?_
        show Q' (.int ((st.fee : Int) + max (0 : Int) (-((p.cost : Int) - ((Kct0.held t.sold : Nat) : Int))))) _
        rw [ek]
        exact q'
      have G7 := O6.setO (s' := { st with now := n, taken := st.taken + (p.cost - Kct0.held t.sold + st.fee), kept := st.kept + (st.fee + (Kct0.held t.sold - p.cost)) }) ho6 rfl rfl
      show tSeq _ _ _ _ (upd H6 o (.ins A.O d6 (offF { st with now := n, taken := st.taken + (p.cost - Kct0.held t.sold + st.fee), kept := st.kept + (st.fee + (Kct0.held t.sold - p.cost)) } D.fl D.sl)))
      have kp7 : Kp H6 (upd H6 o (.ins A.O d6 (offF { st with now := n, taken := st.taken + (p.cost - Kct0.held t.sold + st.fee), kept := st.kept + (st.fee + (Kct0.held t.sold - p.cost)) } D.fl D.sl))) nOff := kp_upd ho6
      generalize upd H6 o (.ins A.O d6 (offF { st with now := n, taken := st.taken + (p.cost - Kct0.held t.sold + st.fee), kept := st.kept + (st.fee + (Kct0.held t.sold - p.cost)) } D.fl D.sl)) = H7 at G7 kp7
      obtain ⟨O7, out7⟩ := G7
      have hsa7 := kp7 _ _ (kp6 _ _ S5.at_ (n_sale (by decide +kernel))) (n_sale (by decide +kernel))
      have C7 := (S5.card.kp kp6 (by decide +kernel)).kp kp7 (by decide +kernel)
      have T7 := ((T4.same s5).kp kp6 (by decide +kernel) (by decide +kernel)).kp kp7 (by decide +kernel) (by decide +kernel)
      have L7 := ((L4.same s5).kp kp6 (by decide +kernel) (by decide +kernel)).kp kp7 (by decide +kernel) (by decide +kernel)
      have out17 : Out H H7 o D D := ((out14.trans (Out.same s5)).trans out6).trans out7
      have hap : Apart D nl ntl := ⟨nl1, nl2, fun q => (O2.dom D.fl (.inr (.inl rfl))) (by rw [← q]; exact TN.new), fun q => (O2.dom D.sl (.inr (.inr (.inl rfl)))) (by rw [← q]; exact TN.new)⟩
      -- exchange
      refine drop_s (meth_in pu_v hsa7 (by rfl) (pa_1 pu_v (pa_1 pu_v pa_0)) ⟨sa, dx, ll, ca, tl, nl, ntl, t.done, rfl, hsa7, ?_⟩)
      have G8 := Off.setSale (H0 := H) (t' := ⟨t.card, ls, Kct0.sell st.fares t.card p, 0⟩) (as' := nas) (ll' := nl) (tl' := ntl) O.dom out17 O7 e1 e2 ht hsa7 L7 C7 T7 hap TN.nd (fun a ha => .inr (s12.free (TN.news a ha))) ⟨Nat.zero_le _, l16, SO.legs, SO.pos, hok.off, l1⟩
      rw [hd0]
      refine fin (k3.to (r' := (Kct0.setTrip { st with now := n, taken := st.taken + (p.cost - Kct0.held t.sold + st.fee), kept := st.kept + (st.fee + (Kct0.held t.sold - p.cost)) } kk ⟨t.card, ls, Kct0.sell st.fares t.card p, 0⟩, .num ((p.cost - Kct0.held t.sold) + st.fee : Nat))) ?_) G8.1 G8.2 (pa_1 pu_v pa_0) (by show 1 ≤ 100000; decide)
      rw [← Nat.add_assoc st.taken, ← Nat.add_assoc st.kept]
      rfl
end
end LF
end

section
set_option Elab.async false
set_option linter.all false
set_option maxRecDepth 100000
namespace LF
open PySem PySem.Spec PyProof.Rows L2
open Kct0 (Abs Trip Sold)
open Kct0Neutral (tell legsOf)
abbrev sRdI : Stmt := inClass (top 56) 0
abbrev sAtEnd : Stmt := inClass (top 56) 1
abbrev sTake : Stmt := inClass (top 56) 2
abbrev sMany : Stmt := inClass (top 56) 3
abbrev sRow : Stmt := inClass (top 56) 4
abbrev sAPrice : Stmt := top 57
abbrev sAAsk : Stmt := top 58
abbrev sABuy : Stmt := top 59
abbrev sARide : Stmt := top 60
abbrev sABack : Stmt := top 61
abbrev sAChange : Stmt := top 62
abbrev sACall : Stmt := top 63
abbrev sAnswers : Stmt := top 64
/-! ### the reader -/
abbrev nRd : List Str := ["numbers", "place"]
def rdF (ca : Addr) (i : Nat) : List (Str × V) := [(Str.ofString "numbers", .ref ca), (Str.ofString "place", .int i)]
/-- only what stands at rp is changed; new objects are new -/
structure Mv (H H' : Hp) (rp : Addr) : Prop where
  keep : ∀ b u, H b = some u → b ≠ rp → H' b = some u
  dom : ∀ b, H' b = none → H b = none
theorem Mv.same {H H' : Hp} {rp : Addr} (s : Same H H') : Mv H H' rp := ⟨fun b u e _ => s b u e, fun b h => s.free h⟩
theorem Mv.trans {H H1 H2 : Hp} {rp : Addr} (a : Mv H H1 rp) (b : Mv H1 H2 rp) : Mv H H2 rp := ⟨fun c u e hn => b.keep c u (a.keep c u e hn) hn, fun c h => a.dom c (b.dom c h)⟩
theorem Mv.upd {H : Hp} {rp : Addr} {o : HO} : Mv H (upd H rp o) rp := ⟨fun b u e hn => by rw [upd_ne hn]; exact e, fun b => dom_upd⟩
structure Rdr (A : Ad) (K : PySem.W.Frag) (H : Hp) (rp dx ca : Addr) (ms : List Nat) (i : Nat) : Prop where
  at_ : H rp = some (.ins A.R dx (rdF ca i))
  sq : ∀ H', Mv H H' rp → SqL K H' ca (nats ms)
theorem Rdr.now {A : Ad} {K : PySem.W.Frag} {H : Hp} {rp dx ca : Addr} {ms : List Nat} {i : Nat} (h : Rdr A K H rp dx ca ms i) : SqL K H ca (nats ms) := h.sq H (Mv.same same_refl)
theorem Rdr.mv {A : Ad} {K : PySem.W.Frag} {H H' : Hp} {rp dx ca : Addr} {ms : List Nat} {i j : Nat} (h : Rdr A K H rp dx ca ms i) (m : Mv H H' rp) (e : H' rp = some (.ins A.R dx (rdF ca j))) : Rdr A K H' rp dx ca ms j := ⟨e, fun H2 m2 => h.sq H2 (m.trans m2)⟩
theorem Mv.kp {H H' : Hp} {A : Ad} {rp dx ca : Addr} {i : Nat} (m : Mv H H' rp) (e : H rp = some (.ins A.R dx (rdF ca i))) : Kp H H' nRd := fun b u hb hk => m.keep b u hb fun q => by
  rw [q, e] at hb
  exact hk (congrArg kd (Option.some.inj hb).symm)
theorem Off.kp {A : Ad} {H H' : Hp} {o : Addr} {D : OffD} {s : Abs} (k : Kp H H' nRd) (h : Off A H o D s) : Off A H' o D s :=
  { h with
    at_ := let ⟨dx, q⟩ := h.at_; ⟨dx, k _ _ q (n_off (by decide +kernel))⟩
    fl_ := k _ _ h.fl_ (n_lst (by decide +kernel))
    sl_ := k _ _ h.sl_ (n_lst (by decide +kernel))
    fares := h.fares.imp fun _ _ q => q.kp k (by decide +kernel)
    sales := fun i sa as t h1 h2 h3 => let ⟨dx, ll, ca, tl, S, ap⟩ := h.sales i sa as t h1 h2 h3; ⟨dx, ll, ca, tl, ⟨k _ _ S.at_ (n_sale (by decide +kernel)), S.legs.kp k (by decide +kernel) (by decide +kernel), S.card.kp k (by decide +kernel), S.ticks.kp k (by decide +kernel) (by decide +kernel)⟩, ap⟩ }
section
variable {P : Program} {w : World} {K : PySem.W.Frag} {mg : Str → Option Value} {base : Heap} {A : Ad}
def fRd (us : List V) (fs : List (Str × V)) : Prop := ∃ ca : Addr, us = [.ref ca] ∧ fs = rdF ca 0
theorem scRdI : FnScope ["self", "numbers"] ["self", "numbers"] (defScope sRdI) := ⟨rfl, rfl, rfl, by decide +kernel, rfl, by decide +kernel, by decide +kernel⟩
theorem ok_rdI {f C fI : Addr} {fd : FuncData} (F : Fun K "__init__" "Reader.__init__" sRdI f fd) (T : TC K mg "Reader" C fI nRd) : FnOk P w K mg base CX0 1 f fd ["self", "numbers"] (spI C 1 fRd) := by
  refine F.ok scRdI (fun vs H Q E h => ?_) (fun cdv A outer s H vs Q E hr h => ?_)
  · obtain ⟨p, dx, us, fs, rfl, e, _⟩ := h
    rw [List.length_cons, e]; rfl
  · obtain ⟨p, dx, us, fs, rfl, _, hp, ⟨ca, rfl, rfl⟩, k⟩ := h
    refine ⟨_, pss_cons (ps_fld (pv 0) (pv 1) rfl) (pss_one (ps_fld (pv 0) pe_int rfl)), ?_⟩
    refine fld_s pu_v pu_v hp T.cl (T.f 0) (by show 0 < 1000; decide) ?_
    refine fld_1 pu_c pu_v upd_same T.cl (T.f 1) (by show 1 < 1000; decide) ?_
    rw [upd_upd]
    exact k
def spEnd (A : Ad) (K : PySem.W.Frag) : Sp := fun vs H Q _ => ∃ (rp dx ca : Addr) (ms : List Nat) (i : Nat), vs = [.ref rp] ∧ Rdr A K H rp dx ca ms i ∧ Q (.bl (decide (ms.length ≤ i))) H
theorem scEnd : FnScope ["self"] ["self"] (defScope sAtEnd) := ⟨rfl, rfl, rfl, by decide +kernel, rfl, by decide +kernel, by decide +kernel⟩
theorem ok_end {f fI : Addr} {fd : FuncData} (F : Fun K "at_end" "Reader.at_end" sAtEnd f fd) (T : TC K mg "Reader" A.R fI nRd) (B : TB mg) : FnOk P w K mg base CX0 1 f fd ["self"] (spEnd A K) := by
  refine F.ok scEnd (fun vs H Q E h => ?_) (fun cdv A' outer s H vs Q E hr h => ?_)
  · obtain ⟨rp, dx, ca, ms, i, rfl, _⟩ := h
    rfl
  · obtain ⟨rp, dx, ca, ms, i, rfl, R, k⟩ := h
    refine ⟨_, pss_one (ps_ret (pe_cmpR op_ge (pe_fld (pv 0) rfl) (pe_callB call_len_seq (by rfl) B.len PySem.boot_len (pa_cons (pe_fld (pv 0) rfl) pa_nil)) (nomark _))), ?_⟩
    refine ret_1 (pu_0 (pu_fld pu_v R.at_ T.cl (T.f 1) rfl) (pu_len (pa_1 (pu_fld pu_v R.at_ T.cl (T.f 0) rfl) pa_0) R.now)) ?_
    have e : decide (((nats ms).length : Int) ≤ (i : Int)) = decide (ms.length ≤ i) := by
      rw [nats, List.length_map]
      exact dec_le_nat
    show Q (.bl (decide (((nats ms).length : Int) ≤ (i : Int)))) H
    rw [e]
    exact k
def spTake (A : Ad) (K : PySem.W.Frag) : Sp := fun vs H Q _ => ∃ (rp dx ca : Addr) (ms : List Nat) (i n : Nat), vs = [.ref rp] ∧ Rdr A K H rp dx ca ms i ∧ ms[i]? = some n ∧ Q (.int (n : Int)) (upd H rp (.ins A.R dx (rdF ca (i + 1))))
theorem scTake : FnScope ["self", "number"] ["self"] (defScope sTake) := ⟨rfl, rfl, rfl, by decide +kernel, rfl, by decide +kernel, by decide +kernel⟩
theorem ok_take {f fI : Addr} {fd : FuncData} (F : Fun K "take" "Reader.take" sTake f fd) (T : TC K mg "Reader" A.R fI nRd) : FnOk P w K mg base CX0 1 f fd ["self"] (spTake A K) := by
  refine F.ok scTake (fun vs H Q E h => ?_) (fun cdv A' outer s H vs Q E hr h => ?_)
  · obtain ⟨rp, dx, ca, ms, i, n, rfl, _⟩ := h
    rfl
  · obtain ⟨rp, dx, ca, ms, i, n, rfl, R, hn, k⟩ := h
    refine ⟨_, pss_cons (ps_set (i := 1) scTake.nd rfl (Or.inl rfl) (pe_ix ix_list (pe_fld (pv 0) rfl) (pe_fld (pv 0) rfl) (fun _ _ => rfl))) (pss_cons (ps_fldaug (pv 0) pe_int in_add) (pss_one (ps_ret (pv 1)))), ?_⟩
    refine set_s (pu_ixL (pu_fld pu_v R.at_ T.cl (T.f 0) rfl) (pu_fld pu_v R.at_ T.cl (T.f 1) rfl) R.now (at_v (nats_at hn) rfl)) ?_
    refine aug_s (z := .int ((i + 1 : Nat) : Int)) pu_v R.at_ T.cl (T.f 1) rfl pu_c (fun Q' q' => ⟨_, _, rfl, rfl, q'⟩) few ?_
    exact ret_1 pu_v k
/-- what a reader's method that gives a list leaves -/
def RdRes (A : Ad) (H : Hp) (rp dx ca : Addr) (j : Nat) (xs : List Nat) (Q : VK) : Prop := ∀ H' la, H la = none → H' la = some (.lst (nats xs)) → H' rp = some (.ins A.R dx (rdF ca j)) → Mv H H' rp → Q (.ref la) H'
def spMany (A : Ad) (K : PySem.W.Frag) : Sp := fun vs H Q _ => ∃ (rp dx ca : Addr) (ms : List Nat) (i m : Nat), vs = [.ref rp, .int (m : Int)] ∧ Rdr A K H rp dx ca ms i ∧ i + m ≤ ms.length ∧ ms.length ≤ 100000 ∧ RdRes A H rp dx ca (i + m) ((ms.drop i).take m) Q
theorem scMany : FnScope ["self", "many", "k"] ["self", "many"] (defScope sMany) := ⟨rfl, rfl, rfl, by decide +kernel, rfl, by decide +kernel, by decide +kernel⟩
theorem ok_many {f f1 fI : Addr} {fd fd1 : FuncData} (F : Fun K "take_many" "Reader.take_many" sMany f fd) (T : TC K mg "Reader" A.R fI nRd) (B : TB mg) (M : MeT P w K mg base 1 A.R "take" ["self"] (spTake A K) f1 fd1) : FnOk P w K mg base CX0 2 f fd ["self", "many"] (spMany A K) := by
  refine F.ok scMany (fun vs H Q E h => ?_) (fun cdv A' outer s H vs Q E hr h => ?_)
  · obtain ⟨rp, dx, ca, ms, i, m, rfl, _⟩ := h
    rfl
  · obtain ⟨rp, dx, ca, ms, i, m, rfl, R, him, hms, k⟩ := h
    have nd := scMany.nd
    refine ⟨_, pss_one (ps_ret (pe_lc (own := [("k", 2)]) rfl nd (pi_range1 rfl B.range (pa_cons (pv 1) pa_nil)) (blkOk_by (by rfl)) (fun _ _ _ _ _ => pg_name (i := 2) nd rfl (Or.inl rfl)) (fun _ _ _ _ _ => pts_nil)
      (fun _ _ _ _ _ => pe_meth0 (pv 0) T.cl M.me M.ok hr M.b .nil pass0))), ?_⟩
    refine ret_of (lc_r1 (pa_1 pu_v pa_0) (by omega) (by omega) fun D hD => ?_)
    rw [show ((m : Int)).toNat = m from by omega]
    have nD : D ≠ rp := (ne_of_none R.at_ hD).symm
    refine lc_range (fun t H' => Mv H H' rp ∧ H' rp = some (.ins A.R dx (rdF ca (i + t))) ∧ H' D = some (.lst (nats ((ms.drop i).take t)))) ⟨Mv.same (same_new hD), by rw [upd_ne (Ne.symm nD)]; exact R.at_, upd_same⟩ ?_ ?_
    · rintro t H1 ht ⟨mv, hrp, hD1⟩
      obtain ⟨n, hn⟩ : ∃ n, ms[i + t]? = some n := ⟨_, List.getElem?_eq_getElem (by omega)⟩
      refine ⟨rfl, yes_s ?_⟩
      refine meth_in pu_v hrp (by rfl) pa_0 ⟨rp, dx, ca, ms, i + t, n, rfl, R.mv mv hrp, hn, ?_⟩
      refine ⟨_, by rw [upd_ne nD]; exact hD1, lt_line (by rw [nats, List.length_map, List.length_take]; omega), ?_, ?_, ?_⟩
      · refine ⟨fun b u e hb => ?_, fun b hb => mv.dom b (dom_upd (dom_upd hb))⟩
        rw [upd_ne (ne_of_none e hD), upd_ne hb]
        exact mv.keep b u e hb
      · rw [upd_ne (Ne.symm nD), upd_same]
        rfl
      · rw [upd_same]
        have e : (ms.drop i)[t]? = some n := by rw [List.getElem?_drop]; exact hn
        rw [take_snoc e, nats, nats, List.map_append]
        rfl
    · rintro H1 ⟨mv, hrp, hD1⟩
      exact k H1 D hD hD1 hrp mv
def spRow (A : Ad) (K : PySem.W.Frag) : Sp := fun vs H Q _ => ∃ (rp dx ca : Addr) (ms : List Nat) (i m : Nat), vs = [.ref rp] ∧ Rdr A K H rp dx ca ms i ∧ ms[i]? = some m ∧ i + 1 + m ≤ ms.length ∧ ms.length ≤ 100000 ∧ RdRes A H rp dx ca (i + 1 + m) ((ms.drop (i + 1)).take m) Q
theorem scRow : FnScope ["self", "many"] ["self"] (defScope sRow) := ⟨rfl, rfl, rfl, by decide +kernel, rfl, by decide +kernel, by decide +kernel⟩
theorem ok_row {f f1 f2 fI : Addr} {fd fd1 fd2 : FuncData} (F : Fun K "take_row" "Reader.take_row" sRow f fd) (T : TC K mg "Reader" A.R fI nRd) (M : MeT P w K mg base 1 A.R "take" ["self"] (spTake A K) f1 fd1) (M2 : MeT P w K mg base 2 A.R "take_many" ["self", "many"] (spMany A K) f2 fd2) : FnOk P w K mg base CX0 3 f fd ["self"] (spRow A K) := by
  refine F.ok scRow (fun vs H Q E h => ?_) (fun cdv A' outer s H vs Q E hr h => ?_)
  · obtain ⟨rp, dx, ca, ms, i, m, rfl, _⟩ := h
    rfl
  · obtain ⟨rp, dx, ca, ms, i, m, rfl, R, hm, him, hms, k⟩ := h
    have hr1 : Room 1 _ := hr.mono (by decide)
    refine ⟨_, pss_cons (ps_set (i := 1) scRow.nd rfl (Or.inl rfl) (pe_meth0 (pv 0) T.cl M.me M.ok hr1 M.b .nil pass0)) (pss_one (ps_ret (pe_meth (pv 0) T.cl M2.me M2.ok hr M2.b .nil pass0 (pa_cons (pv 1) pa_nil)))), ?_⟩
    refine asg_s (meth_in pu_v R.at_ (by rfl) pa_0 ⟨rp, dx, ca, ms, i, m, rfl, R, hm, ?_⟩)
    have mv : Mv H (upd H rp (.ins A.R dx (rdF ca (i + 1)))) rp := Mv.upd
    have R1 : Rdr A K (upd H rp (.ins A.R dx (rdF ca (i + 1)))) rp dx ca ms (i + 1) := R.mv mv upd_same
    generalize upd H rp (.ins A.R dx (rdF ca (i + 1))) = H1 at mv R1
    refine ret_of (meth_in pu_v R1.at_ (by rfl) (pa_1 pu_v pa_0) ⟨rp, dx, ca, ms, i + 1, m, rfl, R1, him, hms, fun H2 la h1 h2 h3 h4 => k H2 la (mv.dom la h1) h2 h3 (mv.trans h4)⟩)
/-! ### what a call leaves -/
def AnsRes (A : Ad) (H : Hp) (o rp dx ca : Addr) (j : Nat) (D : OffD) (r : Abs × Kct0.Ans) (Q : VK) : Prop := ∀ (H' : Hp) (D' : OffD) (ra : Addr), Off A H' o D' r.1 → H' rp = some (.ins A.R dx (rdF ca j)) → (∀ b u, H b = some u → ¬ D.ms o b → b ≠ rp → H' b = some u) → (∀ b, D'.ms o b → D.ms o b ∨ H b = none) → H ra = none → H' ra = some (.lst ((tell r.2).map V.int)) → Q (.ref ra) H'
theorem AnsRes.off {H H1 : Hp} {o rp dx ca : Addr} {j : Nat} {D : OffD} {r : Abs × Kct0.Ans} {Q : VK} (k : AnsRes A H o rp dx ca j D r Q) (mv : Mv H H1 rp) (e : H1 rp = some (.ins A.R dx (rdF ca j))) (hn : ¬ D.ms o rp) : OffRes A H1 o D r Q := fun H' D' ra O out nra hra =>
  k H' D' ra O (out.keep _ _ e hn) (fun b u hb h1 h2 => out.keep b u (mv.keep b u hb h2) h1) (fun b hb => (out.new b hb).imp id fun z => mv.dom b z) (mv.dom ra nra) hra
/-- o.m(..) whose arguments change things -/
theorem meth_x {C : Addr} {m : Str} {sp : Sp} {E : XK} {ta : TE} {t : TA} {σ : St} {H : Hp} {Q : VK} {a dx : Addr} {fs : List (Str × V)} (ho : Pu ta σ H (.ref a)) (hp : H a = some (.ins C dx fs)) (hn : fs.lookup m = none) (h : t σ H fun vs H2 => sp (.ref a :: (vs ++ [])) H2 Q E) : tMeth C m sp [] E ta t σ H Q := ho _ ⟨a, dx, fs, rfl, hp, hn, h⟩
theorem call_x {sp : Sp} {E : XK} {te : TE} {σ : St} {H : Hp} {Q : VK} (h : te σ H fun v H1 => sp [v] H1 Q E) : tCall sp [] E (tCons te tNil) σ H Q := h
structure LeanR (P : Program) (w : World) (K : PySem.W.Frag) (mg : Str → Option Value) (base : Heap) (A : Ad) (fO fR f1 f2 f3 : Addr) (fd1 fd2 fd3 : FuncData) : Prop where
  TO : TC K mg "Office" A.O fO nOff
  TR : TC K mg "Reader" A.R fR nRd
  Mt : MeT P w K mg base 1 A.R "take" ["self"] (spTake A K) f1 fd1
  Mm : MeT P w K mg base 2 A.R "take_many" ["self", "many"] (spMany A K) f2 fd2
  Mr : MeT P w K mg base 3 A.R "take_row" ["self"] (spRow A K) f3 fd3
theorem drop_take2 {ms r : List Nat} {i a b : Nat} (h : ms.drop i = a :: b :: r) : (ms.drop i).take 2 = [a, b] ∧ i + 2 ≤ ms.length := by
  rw [h]
  refine ⟨rfl, ?_⟩
  have := congrArg List.length h
  rw [List.length_drop] at this
  simp only [List.length_cons] at this
  omega
theorem drop_take3 {ms r : List Nat} {i a b c : Nat} (h : ms.drop i = a :: b :: c :: r) : (ms.drop i).take 3 = [a, b, c] ∧ i + 3 ≤ ms.length := by
  rw [h]
  refine ⟨rfl, ?_⟩
  have := congrArg List.length h
  rw [List.length_drop] at this
  simp only [List.length_cons] at this
  omega
/-! ### answer_price, answer_ride, answer_back -/
def spA2 (A : Ad) (K : PySem.W.Frag) (call : Nat → Nat → Kct0.Call) : Sp := fun vs H Q _ => ∃ (o rp dx ca : Addr) (D : OffD) (s : Abs) (ms : List Nat) (i a b : Nat) (r : List Nat), vs = [.ref o, .ref rp] ∧ Off A H o D s ∧ ¬ D.ms o rp ∧ Rdr A K H rp dx ca ms i ∧ ms.length ≤ 100000 ∧ ms.drop i = a :: b :: r ∧ AnsRes A H o rp dx ca (i + 2) D (Kct0.step s (call a b)) Q
theorem scAPrice : FnScope ["office", "reader", "told"] ["office", "reader"] (defScope sAPrice) := ⟨rfl, rfl, rfl, by decide +kernel, rfl, by decide +kernel, by decide +kernel⟩
theorem scARide : FnScope ["office", "reader", "told"] ["office", "reader"] (defScope sARide) := ⟨rfl, rfl, rfl, by decide +kernel, rfl, by decide +kernel, by decide +kernel⟩
theorem scABack : FnScope ["office", "reader", "told"] ["office", "reader"] (defScope sABack) := ⟨rfl, rfl, rfl, by decide +kernel, rfl, by decide +kernel, by decide +kernel⟩
theorem ok_aPrice {f fM fO fR f1 f2 f3 : Addr} {fd fdM fd1 fd2 fd3 : FuncData} (F : Fun K "answer_price" "answer_price" sAPrice f fd) (Z : LeanR P w K mg base A fO fR f1 f2 f3 fd1 fd2 fd3) (M : MeT P w K mg base 2 A.O "set_price" ["self", "f", "price"] (spSetPrice A) fM fdM) : FnOk P w K mg base CX0 3 f fd ["office", "reader"] (spA2 A K .price) := by
  refine F.ok scAPrice (fun vs H Q E h => ?_) (fun cdv A' outer s H vs Q E hr h => ?_)
  · obtain ⟨o, rp, dx, ca, D, s, ms, i, a, b, r, rfl, _⟩ := h
    rfl
  · obtain ⟨o, rp, dx, ca, D, st, ms, i, a, b, r, rfl, O, hn, R, hms, hd, k⟩ := h
    obtain ⟨e2, hl⟩ := drop_take2 hd
    refine ⟨_, pss_cons (ps_set (i := 2) scAPrice.nd rfl (Or.inl rfl) (pe_meth (pv 1) Z.TR.cl Z.Mm.me Z.Mm.ok hr Z.Mm.b .nil pass0 (pa_cons pe_int pa_nil))) (pss_one (ps_ret (pe_meth (pv 0) Z.TO.cl M.me M.ok hr M.b .nil pass0 (pa_cons (pe_ix ix_list (pv 2) pe_int (fun _ _ => rfl)) (pa_cons (pe_ix ix_list (pv 2) pe_int (fun _ _ => rfl)) pa_nil))))), ?_⟩
    refine asg_s (meth_in pu_v R.at_ (by rfl) (pa_1 pu_c pa_0) ⟨rp, dx, ca, ms, i, 2, rfl, R, hl, hms, fun H1 la n1 h1 h2 mv => ?_⟩)
    rw [e2] at h1
    have O1 := O.kp (mv.kp R.at_)
    obtain ⟨d1, ho1⟩ := O1.at_
    exact ret_of (meth_in pu_v ho1 (by rfl) (pa_1 (pu_ixL pu_v pu_c (SqL.of h1) rfl) (pa_1 (pu_ixL pu_v pu_c (SqL.of h1) rfl) pa_0)) ⟨o, D, st, a, b, rfl, O1, k.off mv h2 hn⟩)
theorem ok_aRide {f fM fO fR f1 f2 f3 : Addr} {fd fdM fd1 fd2 fd3 : FuncData} (F : Fun K "answer_ride" "answer_ride" sARide f fd) (Z : LeanR P w K mg base A fO fR f1 f2 f3 fd1 fd2 fd3) (M : MeT P w K mg base 2 A.O "ride" ["self", "k", "now"] (spRide A) fM fdM) : FnOk P w K mg base CX0 3 f fd ["office", "reader"] (spA2 A K .ride) := by
  refine F.ok scARide (fun vs H Q E h => ?_) (fun cdv A' outer s H vs Q E hr h => ?_)
  · obtain ⟨o, rp, dx, ca, D, s, ms, i, a, b, r, rfl, _⟩ := h
    rfl
  · obtain ⟨o, rp, dx, ca, D, st, ms, i, a, b, r, rfl, O, hn, R, hms, hd, k⟩ := h
    obtain ⟨e2, hl⟩ := drop_take2 hd
    refine ⟨_, pss_cons (ps_set (i := 2) scARide.nd rfl (Or.inl rfl) (pe_meth (pv 1) Z.TR.cl Z.Mm.me Z.Mm.ok hr Z.Mm.b .nil pass0 (pa_cons pe_int pa_nil))) (pss_one (ps_ret (pe_meth (pv 0) Z.TO.cl M.me M.ok hr M.b .nil pass0 (pa_cons (pe_ix ix_list (pv 2) pe_int (fun _ _ => rfl)) (pa_cons (pe_ix ix_list (pv 2) pe_int (fun _ _ => rfl)) pa_nil))))), ?_⟩
    refine asg_s (meth_in pu_v R.at_ (by rfl) (pa_1 pu_c pa_0) ⟨rp, dx, ca, ms, i, 2, rfl, R, hl, hms, fun H1 la n1 h1 h2 mv => ?_⟩)
    rw [e2] at h1
    have O1 := O.kp (mv.kp R.at_)
    obtain ⟨d1, ho1⟩ := O1.at_
    exact ret_of (meth_in pu_v ho1 (by rfl) (pa_1 (pu_ixL pu_v pu_c (SqL.of h1) rfl) (pa_1 (pu_ixL pu_v pu_c (SqL.of h1) rfl) pa_0)) ⟨o, D, st, a, b, rfl, O1, k.off mv h2 hn⟩)
theorem ok_aBack {f fM fO fR f1 f2 f3 : Addr} {fd fdM fd1 fd2 fd3 : FuncData} (F : Fun K "answer_back" "answer_back" sABack f fd) (Z : LeanR P w K mg base A fO fR f1 f2 f3 fd1 fd2 fd3) (M : MeT P w K mg base 3 A.O "give_back" ["self", "k", "now"] (spGive A) fM fdM) : FnOk P w K mg base CX0 4 f fd ["office", "reader"] (spA2 A K .back) := by
  refine F.ok scABack (fun vs H Q E h => ?_) (fun cdv A' outer s H vs Q E hr h => ?_)
  · obtain ⟨o, rp, dx, ca, D, s, ms, i, a, b, r, rfl, _⟩ := h
    rfl
  · obtain ⟨o, rp, dx, ca, D, st, ms, i, a, b, r, rfl, O, hn, R, hms, hd, k⟩ := h
    obtain ⟨e2, hl⟩ := drop_take2 hd
    have hr2 : Room 2 _ := hr.mono (by decide)
    refine ⟨_, pss_cons (ps_set (i := 2) scABack.nd rfl (Or.inl rfl) (pe_meth (pv 1) Z.TR.cl Z.Mm.me Z.Mm.ok hr2 Z.Mm.b .nil pass0 (pa_cons pe_int pa_nil))) (pss_one (ps_ret (pe_meth (pv 0) Z.TO.cl M.me M.ok hr M.b .nil pass0 (pa_cons (pe_ix ix_list (pv 2) pe_int (fun _ _ => rfl)) (pa_cons (pe_ix ix_list (pv 2) pe_int (fun _ _ => rfl)) pa_nil))))), ?_⟩
    refine asg_s (meth_in pu_v R.at_ (by rfl) (pa_1 pu_c pa_0) ⟨rp, dx, ca, ms, i, 2, rfl, R, hl, hms, fun H1 la n1 h1 h2 mv => ?_⟩)
    rw [e2] at h1
    have O1 := O.kp (mv.kp R.at_)
    obtain ⟨d1, ho1⟩ := O1.at_
    exact ret_of (meth_in pu_v ho1 (by rfl) (pa_1 (pu_ixL pu_v pu_c (SqL.of h1) rfl) (pa_1 (pu_ixL pu_v pu_c (SqL.of h1) rfl) pa_0)) ⟨o, D, st, a, b, rfl, O1, k.off mv h2 hn⟩)
/-! ### answer_ask, answer_buy, answer_change -/
theorem drop_row {ms d r : List Nat} {i m : Nat} (h : ms.drop i = m :: (d ++ r)) (hm : d.length = m) : ms[i]? = some m ∧ i + 1 + m ≤ ms.length ∧ (ms.drop (i + 1)).take m = d := by
  have hl := congrArg List.length h
  rw [List.length_drop, List.length_cons, List.length_append] at hl
  have e1 : ms[i]? = some m := by
    have : (ms.drop i)[0]? = some m := by rw [h]; rfl
    rw [List.getElem?_drop] at this
    exact this
  refine ⟨e1, by omega, ?_⟩
  have e2 : ms.drop (i + 1) = d ++ r := by
    rw [← List.drop_drop, h]
    rfl
  rw [e2, List.take_append_of_le_length (by omega), List.take_of_length_le (by omega)]
theorem drop_add {ms : List Nat} {i j : Nat} {l : List Nat} (h : ms.drop i = l) : ms.drop (i + j) = l.drop j := by rw [← h, List.drop_drop]
def spAAsk (A : Ad) (K : PySem.W.Frag) : Sp := fun vs H Q _ => ∃ (o rp dx ca : Addr) (D : OffD) (s : Abs) (ms : List Nat) (i a b m : Nat) (d r : List Nat), vs = [.ref o, .ref rp] ∧ Off A H o D s ∧ ¬ D.ms o rp ∧ Rdr A K H rp dx ca ms i ∧ ms.length ≤ 100000 ∧ ms.drop i = a :: b :: m :: (d ++ r) ∧ d.length = m ∧ m % 4 = 0 ∧ AnsRes A H o rp dx ca (i + 2 + 1 + m) D (Kct0.step s (.ask a b (legsOf d))) Q
theorem scAAsk : FnScope ["office", "reader", "told", "legs"] ["office", "reader"] (defScope sAAsk) := ⟨rfl, rfl, rfl, by decide +kernel, rfl, by decide +kernel, by decide +kernel⟩
theorem ok_aAsk {f fM fL fO fR f1 f2 f3 : Addr} {fd fdM fdL fd1 fd2 fd3 : FuncData} (F : Fun K "answer_ask" "answer_ask" sAAsk f fd) (Z : LeanR P w K mg base A fO fR f1 f2 f3 fd1 fd2 fd3) (M : MeT P w K mg base 5 A.O "ask" ["self", "off", "least", "legs"] (spAsk A) fM fdM) (L : FnT P w K mg base 3 "legs_of" ["row"] (spLegsOf A.L K) fL fdL) : FnOk P w K mg base CX0 6 f fd ["office", "reader"] (spAAsk A K) := by
  refine F.ok scAAsk (fun vs H Q E h => ?_) (fun cdv A' outer s H vs Q E hr h => ?_)
  · obtain ⟨o, rp, dx, ca, D, s, ms, i, a, b, m, d, r, rfl, _⟩ := h
    rfl
  · obtain ⟨o, rp, dx, ca, D, st, ms, i, a, b, m, d, r, rfl, O, hn, R, hms, hd, hm, h4, k⟩ := h
    obtain ⟨e2, hl⟩ := drop_take2 hd
    obtain ⟨r1, r2, r3⟩ := drop_row (i := i + 2) (drop_add (j := 2) hd) hm
    have hr2 : Room 2 _ := hr.mono (by decide)
    have hr3 : Room 3 _ := hr.mono (by decide)
    refine ⟨_, pss_cons (ps_set (i := 2) scAAsk.nd rfl (Or.inl rfl) (pe_meth (pv 1) Z.TR.cl Z.Mm.me Z.Mm.ok hr2 Z.Mm.b .nil pass0 (pa_cons pe_int pa_nil)))
      (pss_cons (ps_set (i := 3) scAAsk.nd rfl (Or.inl rfl) (pcall L hr3 (pa_cons (pe_meth0 (pv 1) Z.TR.cl Z.Mr.me Z.Mr.ok hr3 Z.Mr.b .nil pass0) pa_nil)))
      (pss_one (ps_ret (pe_meth (pv 0) Z.TO.cl M.me M.ok hr M.b .nil pass0 (pa_cons (pe_ix ix_list (pv 2) pe_int (fun _ _ => rfl)) (pa_cons (pe_ix ix_list (pv 2) pe_int (fun _ _ => rfl)) (pa_cons (pv 3) pa_nil))))))), ?_⟩
    refine asg_s (meth_in pu_v R.at_ (by rfl) (pa_1 pu_c pa_0) ⟨rp, dx, ca, ms, i, 2, rfl, R, hl, hms, fun H1 la n1 h1 h2 mv => ?_⟩)
    rw [e2] at h1
    have R1 := R.mv mv h2
    have nla : la ≠ rp := fun q => by rw [q, R.at_] at n1; cases n1
    refine asg_s (call_x (meth_in pu_v h2 (by rfl) pa_0 ⟨rp, dx, ca, ms, i + 2, m, rfl, R1, r1, r2, hms, fun H2 rl n2 h3 h4' mv2 => ?_⟩))
    rw [r3] at h3
    refine ⟨rl, d, m / 4, rfl, SqL.of h3, by omega, by omega, fun H3 ll n3 s3 hL => ?_⟩
    have mv3 : Mv H H3 rp := (mv.trans mv2).trans (Mv.same s3)
    have O3 := O.kp (mv3.kp R.at_)
    obtain ⟨d3, ho3⟩ := O3.at_
    have h13 := s3 _ _ (mv2.keep _ _ h1 nla)
    exact ret_of (meth_in pu_v ho3 (by rfl) (pa_1 (pu_ixL pu_v pu_c (SqL.of h13) rfl) (pa_1 (pu_ixL pu_v pu_c (SqL.of h13) rfl) (pa_1 pu_v pa_0))) ⟨o, ll, D, st, a, b, legsOf d, rfl, O3, hL, k.off mv3 (s3 _ _ h4') hn⟩)
def spABuy (A : Ad) (K : PySem.W.Frag) : Sp := fun vs H Q _ => ∃ (o rp dx ca : Addr) (D : OffD) (s : Abs) (ms : List Nat) (i a b n m : Nat) (d r : List Nat), vs = [.ref o, .ref rp] ∧ Off A H o D s ∧ ¬ D.ms o rp ∧ Rdr A K H rp dx ca ms i ∧ ms.length ≤ 100000 ∧ ms.drop i = a :: b :: n :: m :: (d ++ r) ∧ d.length = m ∧ m % 4 = 0 ∧ AnsRes A H o rp dx ca (i + 3 + 1 + m) D (Kct0.step s (.buy a b n (legsOf d))) Q
theorem scABuy : FnScope ["office", "reader", "told", "legs"] ["office", "reader"] (defScope sABuy) := ⟨rfl, rfl, rfl, by decide +kernel, rfl, by decide +kernel, by decide +kernel⟩
theorem ok_aBuy {f fM fL fO fR f1 f2 f3 : Addr} {fd fdM fdL fd1 fd2 fd3 : FuncData} (F : Fun K "answer_buy" "answer_buy" sABuy f fd) (Z : LeanR P w K mg base A fO fR f1 f2 f3 fd1 fd2 fd3) (M : MeT P w K mg base 5 A.O "buy" ["self", "off", "least", "now", "legs"] (spBuy A) fM fdM) (L : FnT P w K mg base 3 "legs_of" ["row"] (spLegsOf A.L K) fL fdL) : FnOk P w K mg base CX0 6 f fd ["office", "reader"] (spABuy A K) := by
  refine F.ok scABuy (fun vs H Q E h => ?_) (fun cdv A' outer s H vs Q E hr h => ?_)
  · obtain ⟨o, rp, dx, ca, D, s, ms, i, a, b, n, m, d, r, rfl, _⟩ := h
    rfl
  · obtain ⟨o, rp, dx, ca, D, st, ms, i, a, b, n, m, d, r, rfl, O, hn, R, hms, hd, hm, h4, k⟩ := h
    obtain ⟨e2, hl⟩ := drop_take3 hd
    obtain ⟨r1, r2, r3⟩ := drop_row (i := i + 3) (drop_add (j := 3) hd) hm
    have hr2 : Room 2 _ := hr.mono (by decide)
    have hr3 : Room 3 _ := hr.mono (by decide)
    refine ⟨_, pss_cons (ps_set (i := 2) scABuy.nd rfl (Or.inl rfl) (pe_meth (pv 1) Z.TR.cl Z.Mm.me Z.Mm.ok hr2 Z.Mm.b .nil pass0 (pa_cons pe_int pa_nil)))
      (pss_cons (ps_set (i := 3) scABuy.nd rfl (Or.inl rfl) (pcall L hr3 (pa_cons (pe_meth0 (pv 1) Z.TR.cl Z.Mr.me Z.Mr.ok hr3 Z.Mr.b .nil pass0) pa_nil)))
      (pss_one (ps_ret (pe_meth (pv 0) Z.TO.cl M.me M.ok hr M.b .nil pass0 (pa_cons (pe_ix ix_list (pv 2) pe_int (fun _ _ => rfl)) (pa_cons (pe_ix ix_list (pv 2) pe_int (fun _ _ => rfl)) (pa_cons (pe_ix ix_list (pv 2) pe_int (fun _ _ => rfl)) (pa_cons (pv 3) pa_nil)))))))), ?_⟩
    refine asg_s (meth_in pu_v R.at_ (by rfl) (pa_1 pu_c pa_0) ⟨rp, dx, ca, ms, i, 3, rfl, R, hl, hms, fun H1 la n1 h1 h2 mv => ?_⟩)
    rw [e2] at h1
    have R1 := R.mv mv h2
    have nla : la ≠ rp := fun q => by rw [q, R.at_] at n1; cases n1
    refine asg_s (call_x (meth_in pu_v h2 (by rfl) pa_0 ⟨rp, dx, ca, ms, i + 3, m, rfl, R1, r1, r2, hms, fun H2 rl n2 h3 h4' mv2 => ?_⟩))
    rw [r3] at h3
    refine ⟨rl, d, m / 4, rfl, SqL.of h3, by omega, by omega, fun H3 ll n3 s3 hL => ?_⟩
    have mv12 := mv.trans mv2
    have O2 := O.kp (mv12.kp R.at_)
    have mv3 : Mv H H3 rp := mv12.trans (Mv.same s3)
    have O3 := O2.same s3
    obtain ⟨d3, ho3⟩ := O3.at_
    have h13 := s3 _ _ (mv2.keep _ _ h1 nla)
    exact ret_of (meth_in pu_v ho3 (by rfl) (pa_1 (pu_ixL pu_v pu_c (SqL.of h13) rfl) (pa_1 (pu_ixL pu_v pu_c (SqL.of h13) rfl) (pa_1 (pu_ixL pu_v pu_c (SqL.of h13) rfl) (pa_1 pu_v pa_0)))) ⟨o, ll, D, st, a, b, n, legsOf d, rfl, O3, hL, fun q => O2.dom D.fl (.inr (.inl rfl)) (by rw [← q]; exact n3), fun q => O2.dom D.sl (.inr (.inr (.inl rfl))) (by rw [← q]; exact n3), k.off mv3 (s3 _ _ h4') hn⟩)
def spAChange (A : Ad) (K : PySem.W.Frag) : Sp := fun vs H Q _ => ∃ (o rp dx ca : Addr) (D : OffD) (s : Abs) (ms : List Nat) (i a b m : Nat) (d r : List Nat), vs = [.ref o, .ref rp] ∧ Off A H o D s ∧ ¬ D.ms o rp ∧ Rdr A K H rp dx ca ms i ∧ ms.length ≤ 100000 ∧ ms.drop i = a :: b :: m :: (d ++ r) ∧ d.length = m ∧ m % 4 = 0 ∧ AnsRes A H o rp dx ca (i + 2 + 1 + m) D (Kct0.step s (.change a b (legsOf d))) Q
theorem scAChange : FnScope ["office", "reader", "told", "legs"] ["office", "reader"] (defScope sAChange) := ⟨rfl, rfl, rfl, by decide +kernel, rfl, by decide +kernel, by decide +kernel⟩
theorem ok_aChange {f fM fL fO fR f1 f2 f3 : Addr} {fd fdM fdL fd1 fd2 fd3 : FuncData} (F : Fun K "answer_change" "answer_change" sAChange f fd) (Z : LeanR P w K mg base A fO fR f1 f2 f3 fd1 fd2 fd3) (M : MeT P w K mg base 5 A.O "change" ["self", "k", "now", "legs"] (spChange A) fM fdM) (L : FnT P w K mg base 3 "legs_of" ["row"] (spLegsOf A.L K) fL fdL) : FnOk P w K mg base CX0 6 f fd ["office", "reader"] (spAChange A K) := by
  refine F.ok scAChange (fun vs H Q E h => ?_) (fun cdv A' outer s H vs Q E hr h => ?_)
  · obtain ⟨o, rp, dx, ca, D, s, ms, i, a, b, m, d, r, rfl, _⟩ := h
    rfl
  · obtain ⟨o, rp, dx, ca, D, st, ms, i, a, b, m, d, r, rfl, O, hn, R, hms, hd, hm, h4, k⟩ := h
    obtain ⟨e2, hl⟩ := drop_take2 hd
    obtain ⟨r1, r2, r3⟩ := drop_row (i := i + 2) (drop_add (j := 2) hd) hm
    have hr2 : Room 2 _ := hr.mono (by decide)
    have hr3 : Room 3 _ := hr.mono (by decide)
    refine ⟨_, pss_cons (ps_set (i := 2) scAChange.nd rfl (Or.inl rfl) (pe_meth (pv 1) Z.TR.cl Z.Mm.me Z.Mm.ok hr2 Z.Mm.b .nil pass0 (pa_cons pe_int pa_nil)))
      (pss_cons (ps_set (i := 3) scAChange.nd rfl (Or.inl rfl) (pcall L hr3 (pa_cons (pe_meth0 (pv 1) Z.TR.cl Z.Mr.me Z.Mr.ok hr3 Z.Mr.b .nil pass0) pa_nil)))
      (pss_one (ps_ret (pe_meth (pv 0) Z.TO.cl M.me M.ok hr M.b .nil pass0 (pa_cons (pe_ix ix_list (pv 2) pe_int (fun _ _ => rfl)) (pa_cons (pe_ix ix_list (pv 2) pe_int (fun _ _ => rfl)) (pa_cons (pv 3) pa_nil))))))), ?_⟩
    refine asg_s (meth_in pu_v R.at_ (by rfl) (pa_1 pu_c pa_0) ⟨rp, dx, ca, ms, i, 2, rfl, R, hl, hms, fun H1 la n1 h1 h2 mv => ?_⟩)
    rw [e2] at h1
    have R1 := R.mv mv h2
    have nla : la ≠ rp := fun q => by rw [q, R.at_] at n1; cases n1
    refine asg_s (call_x (meth_in pu_v h2 (by rfl) pa_0 ⟨rp, dx, ca, ms, i + 2, m, rfl, R1, r1, r2, hms, fun H2 rl n2 h3 h4' mv2 => ?_⟩))
    rw [r3] at h3
    refine ⟨rl, d, m / 4, rfl, SqL.of h3, by omega, by omega, fun H3 ll n3 s3 hL => ?_⟩
    have mv12 := mv.trans mv2
    have O2 := O.kp (mv12.kp R.at_)
    have mv3 : Mv H H3 rp := mv12.trans (Mv.same s3)
    have O3 := O2.same s3
    obtain ⟨d3, ho3⟩ := O3.at_
    have h13 := s3 _ _ (mv2.keep _ _ h1 nla)
    exact ret_of (meth_in pu_v ho3 (by rfl) (pa_1 (pu_ixL pu_v pu_c (SqL.of h13) rfl) (pa_1 (pu_ixL pu_v pu_c (SqL.of h13) rfl) (pa_1 pu_v pa_0))) ⟨o, ll, D, st, a, b, legsOf d, rfl, O3, hL, fun q => O2.dom D.fl (.inr (.inl rfl)) (by rw [← q]; exact n3), fun q => O2.dom D.sl (.inr (.inr (.inl rfl))) (by rw [← q]; exact n3), k.off mv3 (s3 _ _ h4') hn⟩)
end
end LF
end

section
set_option Elab.async false
set_option linter.all false
set_option maxRecDepth 100000
namespace LF
open PySem PySem.Spec PyProof.Rows L2
open Kct0 (Abs Trip Sold)
open Kct0Neutral (tell legsOf)
/-! ### the mathematics: a list of calls, taken apart -/
def zs (l : List Nat) : List Int := l.map fun (n : Nat) => (n : Int)
inductive CallIs : List Nat → Nat → Kct0.Call → Prop
  | begin_ (a : Nat) (r : List Nat) : CallIs (0 :: a :: r) 2 (.begin_ a)
  | fare (a z v p i j n b : Nat) (r : List Nat) : CallIs (1 :: a :: z :: v :: p :: i :: j :: n :: b :: r) 9 (.fare a z v p i j n b)
  | close (f : Nat) (r : List Nat) : CallIs (2 :: f :: r) 2 (.close f)
  | price (f p : Nat) (r : List Nat) : CallIs (3 :: f :: p :: r) 3 (.price f p)
  | ask (a b m : Nat) (d r : List Nat) (h : d.length = m) (h4 : m % 4 = 0) : CallIs (4 :: a :: b :: m :: (d ++ r)) (4 + m) (.ask a b (legsOf d))
  | buy (a b n m : Nat) (d r : List Nat) (h : d.length = m) (h4 : m % 4 = 0) : CallIs (5 :: a :: b :: n :: m :: (d ++ r)) (5 + m) (.buy a b n (legsOf d))
  | tickets (k : Nat) (r : List Nat) : CallIs (6 :: k :: r) 2 (.tickets k)
  | ride (k n : Nat) (r : List Nat) : CallIs (7 :: k :: n :: r) 3 (.ride k n)
  | back (k n : Nat) (r : List Nat) : CallIs (8 :: k :: n :: r) 3 (.back k n)
  | change (k n m : Nat) (d r : List Nat) (h : d.length = m) (h4 : m % 4 = 0) : CallIs (9 :: k :: n :: m :: (d ++ r)) (4 + m) (.change k n (legsOf d))
  | books (r : List Nat) : CallIs (10 :: r) 1 .books
theorem rows1 (m : Nat) (r : List Nat) : PyFlat.rows 1 (zs (m :: r)) = if m ≤ r.length then some ([zs (r.take m)], zs (r.drop m)) else none := by
  show (match PyFlat.row ((m : Int) :: zs r) with | none => none | some (x, s) => (match PyFlat.rows 0 s with | none => none | some (xs, t) => some (x :: xs, t))) = _
  have e : PyFlat.row ((m : Int) :: zs r) = if m ≤ r.length then some (zs (r.take m), zs (r.drop m)) else none := by
    show (if 0 ≤ (m : Int) ∧ (m : Int).toNat ≤ (zs r).length then some ((zs r).take (m : Int).toNat, (zs r).drop (m : Int).toNat) else none) = _
    have e1 : (m : Int).toNat = m := by omega
    have e2 : (zs r).length = r.length := by unfold zs; rw [List.length_map]
    rw [e1, e2]
    by_cases h : m ≤ r.length
    · rw [if_pos ⟨by omega, h⟩, if_pos h]
      unfold zs
      rw [List.map_take, List.map_drop]
    · rw [if_neg (fun q => h q.2), if_neg h]
  rw [e]
  by_cases h : m ≤ r.length
  · rw [if_pos h, if_pos h]; rfl
  · rw [if_neg h, if_neg h]
theorem toNat_zs : ∀ d : List Nat, (zs d).map Int.toNat = d
  | [] => rfl
  | a :: d => by
    show (a : Int).toNat :: (zs d).map Int.toNat = a :: d
    rw [toNat_zs d]
    rfl
theorem zs_len (d : List Nat) : (zs d).length = d.length := by unfold zs; rw [List.length_map]
theorem row4 {m : Nat} {r3 : List Nat} (hm : m ≤ r3.length) (h : Kct0Neutral.rows 4 (zs (r3.take m)) = true) : m % 4 = 0 ∧ (r3.take m).length = m := by
  have h1 := of_decide_eq_true h
  rw [zs_len, List.length_take] at h1
  rw [List.length_take]
  omega
theorem call_is {l : List Nat} {c : List (List Int)} {t : List Int} (h : PyFlat.call PyKct0.shape (zs l) = some (c, t)) (ha : Kct0Neutral.asked1 (PyKct0.whole c) = true) :
    ∃ j, CallIs l j (Kct0Neutral.call (PyKct0.whole c)) ∧ t = zs (l.drop j) ∧ 1 ≤ j ∧ j ≤ l.length := by
  cases l with
  | nil => cases h
  | cons p r =>
    by_cases hp : p ≤ 10
    · have hp' : p = 0 ∨ p = 1 ∨ p = 2 ∨ p = 3 ∨ p = 4 ∨ p = 5 ∨ p = 6 ∨ p = 7 ∨ p = 8 ∨ p = 9 ∨ p = 10 := by omega
      rcases hp' with rfl | rfl | rfl | rfl | rfl | rfl | rfl | rfl | rfl | rfl | rfl
      · match r, h with
        | [], h => cases h
        | a :: r, h =>
          have h' : some (([[(0 : Int), (a : Int)]] : List (List Int)), zs r) = some (c, t) := h
          cases h'
          exact ⟨2, .begin_ a r, rfl, by decide, by simp⟩
      · match r, h with
        | a :: z :: v :: q :: i :: j :: n :: b :: r, h =>
          have h' : some (([[(1 : Int), (a : Int), (z : Int), (v : Int), (q : Int), (i : Int), (j : Int), (n : Int), (b : Int)]] : List (List Int)), zs r) = some (c, t) := h
          cases h'
          exact ⟨9, .fare a z v q i j n b r, rfl, by decide, by simp⟩
        | [], h => cases h
        | [_], h => cases h
        | [_, _], h => cases h
        | [_, _, _], h => cases h
        | [_, _, _, _], h => cases h
        | [_, _, _, _, _], h => cases h
        | [_, _, _, _, _, _], h => cases h
        | [_, _, _, _, _, _, _], h => cases h
      · match r, h with
        | [], h => cases h
        | a :: r, h =>
          have h' : some (([[(2 : Int), (a : Int)]] : List (List Int)), zs r) = some (c, t) := h
          cases h'
          exact ⟨2, .close a r, rfl, by decide, by simp⟩
      · match r, h with
        | [], h => cases h
        | [_], h => cases h
        | a :: b :: r, h =>
          have h' : some (([[(3 : Int), (a : Int), (b : Int)]] : List (List Int)), zs r) = some (c, t) := h
          cases h'
          exact ⟨3, .price a b r, rfl, by decide, by simp⟩
      · match r, h with
        | [], h => cases h
        | [_], h => cases h
        | [_, _], h => cases h
        | a :: b :: m :: r3, h =>
          have h' : (match PyFlat.rows 1 (zs (m :: r3)) with | none => none | some (xs, t) => some (([(4 : Int), (a : Int), (b : Int)] :: xs), t)) = some (c, t) := h
          rw [rows1] at h'
          by_cases hm : m ≤ r3.length
          · rw [if_pos hm] at h'
            have h2 : some (([[(4 : Int), (a : Int), (b : Int)], zs (r3.take m)] : List (List Int)), zs (r3.drop m)) = some (c, t) := h'
            cases h2
            have h3 : (Kct0Neutral.natural (a : Int) 32 && Kct0Neutral.natural (b : Int) 32 && ((zs (r3.take m)).all (fun (z : Int) => Kct0Neutral.natural z 32) && Kct0Neutral.rows 4 (zs (r3.take m)))) = true := ha
            rw [Bool.and_eq_true, Bool.and_eq_true (_ : Bool) (Kct0Neutral.rows _ _)] at h3
            obtain ⟨q1, q2⟩ := row4 hm h3.2.2
            refine ⟨4 + m, ?_, ?_, by omega, by simp only [List.length_cons]; omega⟩
            · have e : Kct0Neutral.call (PyKct0.whole [[(4 : Int), (a : Int), (b : Int)], zs (r3.take m)]) = .ask a b (legsOf ((zs (r3.take m)).map Int.toNat)) := rfl
              rw [e, toNat_zs]
              have e2 := CallIs.ask a b m (r3.take m) (r3.drop m) q2 q1
              rw [List.take_append_drop] at e2
              exact e2
            · show zs (r3.drop m) = zs ((4 :: a :: b :: m :: r3).drop (4 + m))
              rw [show 4 + m = m + 4 from by omega]
              rfl
          · rw [if_neg hm] at h'
            cases h'
      · match r, h with
        | [], h => cases h
        | [_], h => cases h
        | [_, _], h => cases h
        | [_, _, _], h => cases h
        | a :: b :: n :: m :: r3, h =>
          have h' : (match PyFlat.rows 1 (zs (m :: r3)) with | none => none | some (xs, t) => some (([(5 : Int), (a : Int), (b : Int), (n : Int)] :: xs), t)) = some (c, t) := h
          rw [rows1] at h'
          by_cases hm : m ≤ r3.length
          · rw [if_pos hm] at h'
            have h2 : some (([[(5 : Int), (a : Int), (b : Int), (n : Int)], zs (r3.take m)] : List (List Int)), zs (r3.drop m)) = some (c, t) := h'
            cases h2
            have h3 : (Kct0Neutral.natural (a : Int) 32 && Kct0Neutral.natural (b : Int) 32 && Kct0Neutral.natural (n : Int) 32 && ((zs (r3.take m)).all (fun (z : Int) => Kct0Neutral.natural z 32) && Kct0Neutral.rows 4 (zs (r3.take m)))) = true := ha
            rw [Bool.and_eq_true, Bool.and_eq_true (_ : Bool) (Kct0Neutral.rows _ _)] at h3
            obtain ⟨q1, q2⟩ := row4 hm h3.2.2
            refine ⟨5 + m, ?_, ?_, by omega, by simp only [List.length_cons]; omega⟩
            · have e : Kct0Neutral.call (PyKct0.whole [[(5 : Int), (a : Int), (b : Int), (n : Int)], zs (r3.take m)]) = .buy a b n (legsOf ((zs (r3.take m)).map Int.toNat)) := rfl
              rw [e, toNat_zs]
              have e2 := CallIs.buy a b n m (r3.take m) (r3.drop m) q2 q1
              rw [List.take_append_drop] at e2
              exact e2
            · show zs (r3.drop m) = zs ((5 :: a :: b :: n :: m :: r3).drop (5 + m))
              rw [show 5 + m = m + 5 from by omega]
              rfl
          · rw [if_neg hm] at h'
            cases h'
      · match r, h with
        | [], h => cases h
        | a :: r, h =>
          have h' : some (([[(6 : Int), (a : Int)]] : List (List Int)), zs r) = some (c, t) := h
          cases h'
          exact ⟨2, .tickets a r, rfl, by decide, by simp⟩
      · match r, h with
        | [], h => cases h
        | [_], h => cases h
        | a :: b :: r, h =>
          have h' : some (([[(7 : Int), (a : Int), (b : Int)]] : List (List Int)), zs r) = some (c, t) := h
          cases h'
          exact ⟨3, .ride a b r, rfl, by decide, by simp⟩
      · match r, h with
        | [], h => cases h
        | [_], h => cases h
        | a :: b :: r, h =>
          have h' : some (([[(8 : Int), (a : Int), (b : Int)]] : List (List Int)), zs r) = some (c, t) := h
          cases h'
          exact ⟨3, .back a b r, rfl, by decide, by simp⟩
      · match r, h with
        | [], h => cases h
        | [_], h => cases h
        | [_, _], h => cases h
        | a :: b :: m :: r3, h =>
          have h' : (match PyFlat.rows 1 (zs (m :: r3)) with | none => none | some (xs, t) => some (([(9 : Int), (a : Int), (b : Int)] :: xs), t)) = some (c, t) := h
          rw [rows1] at h'
          by_cases hm : m ≤ r3.length
          · rw [if_pos hm] at h'
            have h2 : some (([[(9 : Int), (a : Int), (b : Int)], zs (r3.take m)] : List (List Int)), zs (r3.drop m)) = some (c, t) := h'
            cases h2
            have h3 : (Kct0Neutral.natural (a : Int) 32 && Kct0Neutral.natural (b : Int) 32 && ((zs (r3.take m)).all (fun (z : Int) => Kct0Neutral.natural z 32) && Kct0Neutral.rows 4 (zs (r3.take m)))) = true := ha
            rw [Bool.and_eq_true, Bool.and_eq_true (_ : Bool) (Kct0Neutral.rows _ _)] at h3
            obtain ⟨q1, q2⟩ := row4 hm h3.2.2
            refine ⟨4 + m, ?_, ?_, by omega, by simp only [List.length_cons]; omega⟩
            · have e : Kct0Neutral.call (PyKct0.whole [[(9 : Int), (a : Int), (b : Int)], zs (r3.take m)]) = .change a b (legsOf ((zs (r3.take m)).map Int.toNat)) := rfl
              rw [e, toNat_zs]
              have e2 := CallIs.change a b m (r3.take m) (r3.drop m) q2 q1
              rw [List.take_append_drop] at e2
              exact e2
            · show zs (r3.drop m) = zs ((9 :: a :: b :: m :: r3).drop (4 + m))
              rw [show 4 + m = m + 4 from by omega]
              rfl
          · rw [if_neg hm] at h'
            cases h'
      · have h' : some (([[(10 : Int)]] : List (List Int)), zs r) = some (c, t) := h
        cases h'
        exact ⟨1, .books r, rfl, by decide, by simp⟩
    · have e : PyKct0.shape (p : Int) = none := by
        unfold PyKct0.shape
        repeat rw [if_neg (by omega)]
      have h' : (match PyKct0.shape (p : Int) with | none => none | some (n, k) => if (zs r).length < n then none else match PyFlat.rows k ((zs r).drop n) with | none => none | some (xs, t) => some (((p : Int) :: (zs r).take n) :: xs, t)) = some (c, t) := h
      rw [e] at h'
      cases h'
theorem calls_nil {f : Nat} {cs : List (List (List Int))} (h : PyFlat.calls PyKct0.shape f [] = some cs) : cs = [] := by
  cases f <;> exact (Option.some.inj h).symm
theorem calls_cons {f : Nat} {p : Int} {r : List Int} {cs : List (List (List Int))} (h : PyFlat.calls PyKct0.shape f (p :: r) = some cs) : ∃ f' c t cs', PyFlat.call PyKct0.shape (p :: r) = some (c, t) ∧ PyFlat.calls PyKct0.shape f' t = some cs' ∧ cs = c :: cs' := by
  cases f with
  | zero => cases h
  | succ f =>
    have h' : (match PyFlat.call PyKct0.shape (p :: r) with | none => none | some (c, t) => match PyFlat.calls PyKct0.shape f t with | none => none | some cs => some (c :: cs)) = some cs := h
    cases e : PyFlat.call PyKct0.shape (p :: r) with
    | none => rw [e] at h'; cases h'
    | some ct =>
      obtain ⟨c, t⟩ := ct
      rw [e] at h'
      cases e2 : PyFlat.calls PyKct0.shape f t with
      | none =>
        have h2 : (match PyFlat.calls PyKct0.shape f t with | none => none | some cs => some (c :: cs)) = some cs := h'
        rw [e2] at h2
        cases h2
      | some cs' =>
        have h2 : (match PyFlat.calls PyKct0.shape f t with | none => none | some cs => some (c :: cs)) = some cs := h'
        rw [e2] at h2
        exact ⟨f, c, t, cs', rfl, e2, (Option.some.inj h2).symm⟩
def due (s : Abs) (cs : List (List (List Int))) : List Int := PyFlat.told (PyFlat.played Kct0Neutral.step s (cs.map PyKct0.whole))
theorem due_nil (s : Abs) : due s [] = [] := rfl
theorem due_cons (s : Abs) (c : List (List Int)) (cs : List (List (List Int))) : due s (c :: cs) = ((tell (Kct0.step s (Kct0Neutral.call (PyKct0.whole c))).2).length : Int) :: (tell (Kct0.step s (Kct0Neutral.call (PyKct0.whole c))).2 ++ due (Kct0.step s (Kct0Neutral.call (PyKct0.whole c))).1 cs) := rfl
theorem played_from (s : Abs) : ∀ cs : List (List (List Int)), PyFlat.played Kct0Neutral.step s cs = Kct0Neutral.answersFrom s cs
  | [] => rfl
  | c :: cs => by
    show (Kct0Neutral.step s c).2 :: PyFlat.played _ (Kct0Neutral.step s c).1 cs = (Kct0Neutral.step s c).2 :: Kct0Neutral.answersFrom (Kct0Neutral.step s c).1 cs
    rw [played_from _ cs]
theorem foldl_sum : ∀ (l : List Nat) (a : Nat), l.foldl (fun (x y : Nat) => x + y) a = a + l.sum
  | [], a => rfl
  | b :: l, a => by
    rw [List.foldl_cons, foldl_sum l, List.sum_cons]
    omega
theorem told_len : ∀ l : List (List Int), (PyFlat.told l).length = (l.map List.length).sum + l.length
  | [] => rfl
  | a :: l => by
    show ((a.length : Int) :: (a ++ PyFlat.told l)).length = _
    rw [List.length_cons, List.length_append, told_len l, List.map_cons, List.sum_cons, List.length_cons]
    omega
theorem from_len (s : Abs) : ∀ cs : List (List (List Int)), (Kct0Neutral.answersFrom s cs).length = cs.length
  | [] => rfl
  | c :: cs => by
    show (Kct0Neutral.answersFrom _ cs).length + 1 = cs.length + 1
    rw [from_len _ cs]
/-- what is asked of a list -/
theorem asked_is {l : List Int} (h : PyKct0.answers_asked l = true) : ∃ cs, PyFlat.calls PyKct0.shape l.length l = some cs ∧ PyKct0.answers l = due Kct0Neutral.start cs ∧ (∀ c ∈ cs, Kct0Neutral.asked1 (PyKct0.whole c) = true) ∧ (PyKct0.answers l).length ≤ 2000000 := by
  unfold PyKct0.answers_asked at h
  cases e : PyKct0.calls l with
  | none => rw [e] at h; cases h
  | some ws =>
    rw [e] at h
    cases e2 : PyFlat.calls PyKct0.shape l.length l with
    | none =>
      unfold PyKct0.calls at e
      rw [e2] at e
      cases e
    | some cs =>
      have e3 : PyKct0.calls l = some (cs.map PyKct0.whole) := by
        unfold PyKct0.calls
        rw [e2]
      rw [e] at e3
      have e4 := Option.some.inj e3
      subst e4
      have ea : PyKct0.answers l = due Kct0Neutral.start cs := by
        unfold PyKct0.answers
        rw [e]
        rfl
      have h1 : (PyFlat.atMost 3000 (cs.map PyKct0.whole) && Kct0Neutral.asked (cs.map PyKct0.whole)) = true := h
      unfold PyFlat.atMost Kct0Neutral.asked at h1
      rw [Bool.and_eq_true, Bool.and_eq_true, Bool.and_eq_true, Bool.and_eq_true] at h1
      obtain ⟨g1, ⟨_, g2, _⟩, g3⟩ := h1
      refine ⟨cs, rfl, ea, fun c hc => ?_, ?_⟩
      · exact List.all_eq_true.mp g2 _ (List.mem_map.mpr ⟨c, hc, rfl⟩)
      · rw [ea]
        unfold due
        rw [told_len, played_from, from_len]
        have g3' := of_decide_eq_true g3
        have g1' := of_decide_eq_true g1
        rw [foldl_sum] at g3'
        unfold Kct0Neutral.answers at g3'
        omega
end LF
end

section
set_option Elab.async false
set_option linter.all false
set_option maxRecDepth 100000
namespace LF
open PySem PySem.Spec PyProof.Rows L2
open Kct0 (Abs Trip Sold)
open Kct0Neutral (tell legsOf)
structure TG3 (mg : Str → Option Value) : Prop where
  begin_ : GI mg "BEGIN" 0
  fare : GI mg "FARE" 1
  close : GI mg "CLOSE" 2
  price : GI mg "PRICE" 3
  ask : GI mg "ASK" 4
  buy : GI mg "BUY" 5
  tickets : GI mg "TICKETS" 6
  ride : GI mg "RIDE" 7
  back : GI mg "BACK" 8
  change : GI mg "CHANGE" 9
  books : GI mg "BOOKS" 10
/-! ### tests of the call's number -/
section
variable {t r : TS} {D : Ends} {σ : St} {H : Hp} {n : Nat} {m : Int} {te : TE}
theorem sk (n : Nat) (hv : σ[2]? = some (some (.int (n : Int)))) (h : (n : Int) ≠ m) (k : r D σ H) : tSeq (tIfS (tTest (tOp rEq (tVar 2) (tC (.int m)))) t tNext) r D σ H :=
  if_s0 (pt_of (pu_eq (pu_v hv) pu_c)) (fun z => absurd (V.int.inj (of_decide_eq_true z)) h) (fun _ => k)
theorem ht (n : Nat) (hv : σ[2]? = some (some (.int (n : Int)))) (h : (n : Int) = m) (k : te σ H D.rt) : tSeq (tIfS (tTest (tOp rEq (tVar 2) (tC (.int m)))) (tRet te) tNext) r D σ H :=
  if_s0 (pt_of (pu_eq (pu_v hv) pu_c)) (fun _ => k) (fun z => absurd (congrArg V.int h) (of_decide_eq_false z))
end
theorem meth_x1 {C : Addr} {m : Str} {sp : Sp} {E : XK} {ta te : TE} {σ : St} {H : Hp} {Q : VK} {a dx : Addr} {fs : List (Str × V)} (ho : Pu ta σ H (.ref a)) (hp : H a = some (.ins C dx fs)) (hn : fs.lookup m = none) (h : te σ H fun v H2 => sp [.ref a, v] H2 Q E) : tMeth C m sp [] E ta (tCons te tNil) σ H Q := meth_x ho hp hn h
section
variable {P : Program} {w : World} {K : PySem.W.Frag} {mg : Str → Option Value} {base : Heap} {A : Ad}
theorem AnsRes.mv {H H1 : Hp} {o rp dx ca : Addr} {j j' : Nat} {D : OffD} {r : Abs × Kct0.Ans} {Q : VK} (k : AnsRes A H o rp dx ca j D r Q) (mv : Mv H H1 rp) (e : j = j') : AnsRes A H1 o rp dx ca j' D r Q := fun H' D' ra O h1 h2 h3 h4 h5 => by
  subst e
  exact k H' D' ra O h1 (fun b u hb q1 q2 => h2 b u (mv.keep b u hb q2) q1 q2) (fun b hb => (h3 b hb).imp id fun z => mv.dom b z) (mv.dom ra h4) h5
structure LeanC (P : Program) (w : World) (K : PySem.W.Frag) (mg : Str → Option Value) (base : Heap) (A : Ad) (fO fR f1 f2 f3 b1 b2 b3 b4 b5 a1 a2 a3 a4 a5 a6 : Addr) (fd1 fd2 fd3 e1 e2 e3 e4 e5 d1 d2 d3 d4 d5 d6 : FuncData) : Prop where
  Z : LeanR P w K mg base A fO fR f1 f2 f3 fd1 fd2 fd3
  Mb : MeT P w K mg base 2 A.O "begin" ["self", "fee"] (spBegin A) b1 e1
  Mf : MeT P w K mg base 3 A.O "add_fare" ["self", "told"] (spAddFare A) b2 e2
  Mc : MeT P w K mg base 2 A.O "close_fare" ["self", "f"] (spClose A) b3 e3
  Ml : MeT P w K mg base 2 A.O "list_tickets" ["self", "k"] (spList A) b4 e4
  Mk : MeT P w K mg base 1 A.O "books" ["self"] (spBooks A) b5 e5
  Lp : FnT P w K mg base 3 "answer_price" ["office", "reader"] (spA2 A K .price) a1 d1
  La : FnT P w K mg base 6 "answer_ask" ["office", "reader"] (spAAsk A K) a2 d2
  Lb : FnT P w K mg base 6 "answer_buy" ["office", "reader"] (spABuy A K) a3 d3
  Lr : FnT P w K mg base 3 "answer_ride" ["office", "reader"] (spA2 A K .ride) a4 d4
  Lg : FnT P w K mg base 4 "answer_back" ["office", "reader"] (spA2 A K .back) a5 d5
  Lc : FnT P w K mg base 6 "answer_change" ["office", "reader"] (spAChange A K) a6 d6
/-! ### answer_call -/
def spACall (A : Ad) (K : PySem.W.Frag) : Sp := fun vs H Q _ => ∃ (o rp dx ca : Addr) (D : OffD) (s : Abs) (ms : List Nat) (i j : Nat) (c : Kct0.Call), vs = [.ref o, .ref rp] ∧ Off A H o D s ∧ ¬ D.ms o rp ∧ Rdr A K H rp dx ca ms i ∧ ms.length ≤ 100000 ∧ CallIs (ms.drop i) j c ∧ AnsRes A H o rp dx ca (i + j) D (Kct0.step s c) Q
theorem scACall : FnScope ["office", "reader", "call"] ["office", "reader"] (defScope sACall) := ⟨rfl, rfl, rfl, by decide +kernel, rfl, by decide +kernel, by decide +kernel⟩
theorem at_drop {ms : List Nat} {i p : Nat} {r : List Nat} (h : ms.drop i = p :: r) : ms[i]? = some p ∧ ms.drop (i + 1) = r ∧ i + 1 + r.length = ms.length := by
  have h0 : (ms.drop i)[0]? = some p := by rw [h]; rfl
  rw [List.getElem?_drop] at h0
  have hl := congrArg List.length h
  rw [List.length_drop, List.length_cons] at hl
  exact ⟨h0, by rw [drop_add (j := 1) h]; rfl, by omega⟩
theorem ok_aCall {f fO fR f1 f2 f3 b1 b2 b3 b4 b5 a1 a2 a3 a4 a5 a6 : Addr} {fd fd1 fd2 fd3 e1 e2 e3 e4 e5 d1 d2 d3 d4 d5 d6 : FuncData} (F : Fun K "answer_call" "answer_call" sACall f fd) (G3 : TG3 mg) (W : LeanC P w K mg base A fO fR f1 f2 f3 b1 b2 b3 b4 b5 a1 a2 a3 a4 a5 a6 fd1 fd2 fd3 e1 e2 e3 e4 e5 d1 d2 d3 d4 d5 d6) : FnOk P w K mg base CX0 7 f fd ["office", "reader"] (spACall A K) := by
  refine F.ok scACall (fun vs H Q E h => ?_) (fun cdv A' outer s H vs Q E hr h => ?_)
  · obtain ⟨o, rp, dx, ca, D, s, ms, i, j, c, rfl, _⟩ := h
    rfl
  · obtain ⟨o, rp, dx, ca, D, st, ms, i, j, c, rfl, O, hn, R, hms, hC, k⟩ := h
    have hr1 : Room 1 _ := hr.mono (by decide)
    have hr2 : Room 2 _ := hr.mono (by decide)
    have hr3 : Room 3 _ := hr.mono (by decide)
    have hr4 : Room 4 _ := hr.mono (by decide)
    refine ⟨_, pss_cons (ps_set (i := 2) scACall.nd rfl (Or.inl rfl) (pe_meth0 (pv 1) W.Z.TR.cl W.Z.Mt.me W.Z.Mt.ok hr1 W.Z.Mt.b .nil pass0))
      (pss_cons (ps_if (pt_cmpR op_eq (pv 2) (pgi G3.begin_) (nomark _)) (pss_one (ps_ret (pe_meth (pv 0) W.Z.TO.cl W.Mb.me W.Mb.ok hr2 W.Mb.b .nil pass0 (pa_cons (pe_meth0 (pv 1) W.Z.TR.cl W.Z.Mt.me W.Z.Mt.ok hr1 W.Z.Mt.b .nil pass0) pa_nil)))) pss_nil)
      (pss_cons (ps_if (pt_cmpR op_eq (pv 2) (pgi G3.fare) (nomark _)) (pss_one (ps_ret (pe_meth (pv 0) W.Z.TO.cl W.Mf.me W.Mf.ok hr3 W.Mf.b .nil pass0 (pa_cons (pe_meth (pv 1) W.Z.TR.cl W.Z.Mm.me W.Z.Mm.ok hr2 W.Z.Mm.b .nil pass0 (pa_cons pe_int pa_nil)) pa_nil)))) pss_nil)
      (pss_cons (ps_if (pt_cmpR op_eq (pv 2) (pgi G3.close) (nomark _)) (pss_one (ps_ret (pe_meth (pv 0) W.Z.TO.cl W.Mc.me W.Mc.ok hr2 W.Mc.b .nil pass0 (pa_cons (pe_meth0 (pv 1) W.Z.TR.cl W.Z.Mt.me W.Z.Mt.ok hr1 W.Z.Mt.b .nil pass0) pa_nil)))) pss_nil)
      (pss_cons (ps_if (pt_cmpR op_eq (pv 2) (pgi G3.price) (nomark _)) (pss_one (ps_ret (pcall W.Lp hr3 (pa_cons (pv 0) (pa_cons (pv 1) pa_nil))))) pss_nil)
      (pss_cons (ps_if (pt_cmpR op_eq (pv 2) (pgi G3.ask) (nomark _)) (pss_one (ps_ret (pcall W.La hr (pa_cons (pv 0) (pa_cons (pv 1) pa_nil))))) pss_nil)
      (pss_cons (ps_if (pt_cmpR op_eq (pv 2) (pgi G3.buy) (nomark _)) (pss_one (ps_ret (pcall W.Lb hr (pa_cons (pv 0) (pa_cons (pv 1) pa_nil))))) pss_nil)
      (pss_cons (ps_if (pt_cmpR op_eq (pv 2) (pgi G3.tickets) (nomark _)) (pss_one (ps_ret (pe_meth (pv 0) W.Z.TO.cl W.Ml.me W.Ml.ok hr2 W.Ml.b .nil pass0 (pa_cons (pe_meth0 (pv 1) W.Z.TR.cl W.Z.Mt.me W.Z.Mt.ok hr1 W.Z.Mt.b .nil pass0) pa_nil)))) pss_nil)
      (pss_cons (ps_if (pt_cmpR op_eq (pv 2) (pgi G3.ride) (nomark _)) (pss_one (ps_ret (pcall W.Lr hr3 (pa_cons (pv 0) (pa_cons (pv 1) pa_nil))))) pss_nil)
      (pss_cons (ps_if (pt_cmpR op_eq (pv 2) (pgi G3.back) (nomark _)) (pss_one (ps_ret (pcall W.Lg hr4 (pa_cons (pv 0) (pa_cons (pv 1) pa_nil))))) pss_nil)
      (pss_cons (ps_if (pt_cmpR op_eq (pv 2) (pgi G3.change) (nomark _)) (pss_one (ps_ret (pcall W.Lc hr (pa_cons (pv 0) (pa_cons (pv 1) pa_nil))))) pss_nil)
      (pss_cons (ps_if (pt_cmpR op_eq (pv 2) (pgi G3.books) (nomark _)) (pss_one (ps_ret (pe_meth0 (pv 0) W.Z.TO.cl W.Mk.me W.Mk.ok hr1 W.Mk.b .nil pass0))) pss_nil)
      (pss_one ps_never)))))))))))), ?_⟩
    generalize hl : ms.drop i = l at hC
    have go : ∀ (p : Nat) (r : List Nat), ms.drop i = p :: r → ∀ (T : TS) (Dd : Ends), (∀ H1, Mv H H1 rp → Rdr A K H1 rp dx ca ms (i + 1) → Off A H1 o D st → T Dd [some (.ref o), some (.ref rp), some (.int (p : Int))] H1) → tSeq (tAsg (tMeth A.R "take" (spTake A K) [] E0 (tVar 1) tNil) (gName 2)) T Dd [some (.ref o), some (.ref rp), none] H := fun p r hp T Dd hT => by
      refine asg_s (meth_in pu_v R.at_ (by rfl) pa_0 ⟨rp, dx, ca, ms, i, p, rfl, R, (at_drop hp).1, ?_⟩)
      have mv : Mv H (upd H rp (.ins A.R dx (rdF ca (i + 1)))) rp := Mv.upd
      exact hT _ mv (R.mv mv upd_same) (O.kp (mv.kp R.at_))
    have mv2 : ∀ {H1 : Hp} {ob : HO}, Mv H H1 rp → Mv H (upd H1 rp ob) rp := fun m => m.trans Mv.upd
    cases hC with
    | begin_ a r =>
      obtain ⟨_, hd1, hln⟩ := at_drop hl
      refine go 0 _ hl _ _ fun H1 mv R1 O1 => ?_
      obtain ⟨q1, ho1⟩ := O1.at_
      refine ht 0 rfl (by decide) ?_
      refine meth_x1 pu_v ho1 (by rfl) (meth_in pu_v R1.at_ (by rfl) pa_0 ⟨rp, dx, ca, ms, i + 1, a, rfl, R1, (at_drop hd1).1, ?_⟩)
      exact ⟨o, D, st, a, rfl, O1.kp ((Mv.upd).kp R1.at_), k.off (mv2 mv) upd_same hn⟩
    | fare a z v p i' j' n b r =>
      obtain ⟨_, hd1, hln⟩ := at_drop hl
      refine go 1 _ hl _ _ fun H1 mv R1 O1 => ?_
      obtain ⟨q1, ho1⟩ := O1.at_
      refine sk 1 rfl (by decide) ?_
      refine ht 1 rfl (by decide) ?_
      refine meth_x1 pu_v ho1 (by rfl) (meth_in pu_v R1.at_ (by rfl) (pa_1 pu_c pa_0) ⟨rp, dx, ca, ms, i + 1, 8, rfl, R1, by simp only [List.length_cons] at hln; omega, hms, fun H2 la n1 h1 h2 m2 => ?_⟩)
      rw [hd1] at h1
      exact ⟨o, la, D, st, a, z, v, p, i', j', n, b, rfl, O1.kp (m2.kp R1.at_), h1, k.off (mv.trans m2) h2 hn⟩
    | close a r =>
      obtain ⟨_, hd1, hln⟩ := at_drop hl
      refine go 2 _ hl _ _ fun H1 mv R1 O1 => ?_
      obtain ⟨q1, ho1⟩ := O1.at_
      refine sk 2 rfl (by decide) ?_
      refine sk 2 rfl (by decide) ?_
      refine ht 2 rfl (by decide) ?_
      refine meth_x1 pu_v ho1 (by rfl) (meth_in pu_v R1.at_ (by rfl) pa_0 ⟨rp, dx, ca, ms, i + 1, a, rfl, R1, (at_drop hd1).1, ?_⟩)
      exact ⟨o, D, st, a, rfl, O1.kp ((Mv.upd).kp R1.at_), k.off (mv2 mv) upd_same hn⟩
    | price a b r =>
      obtain ⟨_, hd1, hln⟩ := at_drop hl
      refine go 3 _ hl _ _ fun H1 mv R1 O1 => ?_
      obtain ⟨q1, ho1⟩ := O1.at_
      refine sk 3 rfl (by decide) ?_
      refine sk 3 rfl (by decide) ?_
      refine sk 3 rfl (by decide) ?_
      refine ht 3 rfl (by decide) ?_
      exact call_in (pa_1 pu_v (pa_1 pu_v pa_0)) ⟨o, rp, dx, ca, D, st, ms, i + 1, a, b, r, rfl, O1, hn, R1, hms, hd1, k.mv mv rfl⟩
    | ask a b m d r hm h4 =>
      obtain ⟨_, hd1, hln⟩ := at_drop hl
      refine go 4 _ hl _ _ fun H1 mv R1 O1 => ?_
      obtain ⟨q1, ho1⟩ := O1.at_
      refine sk 4 rfl (by decide) ?_
      refine sk 4 rfl (by decide) ?_
      refine sk 4 rfl (by decide) ?_
      refine sk 4 rfl (by decide) ?_
      refine ht 4 rfl (by decide) ?_
      exact call_in (pa_1 pu_v (pa_1 pu_v pa_0)) ⟨o, rp, dx, ca, D, st, ms, i + 1, a, b, m, d, r, rfl, O1, hn, R1, hms, hd1, hm, h4, k.mv mv (by omega)⟩
    | buy a b n m d r hm h4 =>
      obtain ⟨_, hd1, hln⟩ := at_drop hl
      refine go 5 _ hl _ _ fun H1 mv R1 O1 => ?_
      obtain ⟨q1, ho1⟩ := O1.at_
      refine sk 5 rfl (by decide) ?_
      refine sk 5 rfl (by decide) ?_
      refine sk 5 rfl (by decide) ?_
      refine sk 5 rfl (by decide) ?_
      refine sk 5 rfl (by decide) ?_
      refine ht 5 rfl (by decide) ?_
      exact call_in (pa_1 pu_v (pa_1 pu_v pa_0)) ⟨o, rp, dx, ca, D, st, ms, i + 1, a, b, n, m, d, r, rfl, O1, hn, R1, hms, hd1, hm, h4, k.mv mv (by omega)⟩
    | tickets a r =>
      obtain ⟨_, hd1, hln⟩ := at_drop hl
      refine go 6 _ hl _ _ fun H1 mv R1 O1 => ?_
      obtain ⟨q1, ho1⟩ := O1.at_
      refine sk 6 rfl (by decide) ?_
      refine sk 6 rfl (by decide) ?_
      refine sk 6 rfl (by decide) ?_
      refine sk 6 rfl (by decide) ?_
      refine sk 6 rfl (by decide) ?_
      refine sk 6 rfl (by decide) ?_
      refine ht 6 rfl (by decide) ?_
      refine meth_x1 pu_v ho1 (by rfl) (meth_in pu_v R1.at_ (by rfl) pa_0 ⟨rp, dx, ca, ms, i + 1, a, rfl, R1, (at_drop hd1).1, ?_⟩)
      exact ⟨o, D, st, a, rfl, O1.kp ((Mv.upd).kp R1.at_), k.off (mv2 mv) upd_same hn⟩
    | ride a b r =>
      obtain ⟨_, hd1, hln⟩ := at_drop hl
      refine go 7 _ hl _ _ fun H1 mv R1 O1 => ?_
      obtain ⟨q1, ho1⟩ := O1.at_
      refine sk 7 rfl (by decide) ?_
      refine sk 7 rfl (by decide) ?_
      refine sk 7 rfl (by decide) ?_
      refine sk 7 rfl (by decide) ?_
      refine sk 7 rfl (by decide) ?_
      refine sk 7 rfl (by decide) ?_
      refine sk 7 rfl (by decide) ?_
      refine ht 7 rfl (by decide) ?_
      exact call_in (pa_1 pu_v (pa_1 pu_v pa_0)) ⟨o, rp, dx, ca, D, st, ms, i + 1, a, b, r, rfl, O1, hn, R1, hms, hd1, k.mv mv rfl⟩
    | back a b r =>
      obtain ⟨_, hd1, hln⟩ := at_drop hl
      refine go 8 _ hl _ _ fun H1 mv R1 O1 => ?_
      obtain ⟨q1, ho1⟩ := O1.at_
      refine sk 8 rfl (by decide) ?_
      refine sk 8 rfl (by decide) ?_
      refine sk 8 rfl (by decide) ?_
      refine sk 8 rfl (by decide) ?_
      refine sk 8 rfl (by decide) ?_
      refine sk 8 rfl (by decide) ?_
      refine sk 8 rfl (by decide) ?_
      refine sk 8 rfl (by decide) ?_
      refine ht 8 rfl (by decide) ?_
      exact call_in (pa_1 pu_v (pa_1 pu_v pa_0)) ⟨o, rp, dx, ca, D, st, ms, i + 1, a, b, r, rfl, O1, hn, R1, hms, hd1, k.mv mv rfl⟩
    | change a b m d r hm h4 =>
      obtain ⟨_, hd1, hln⟩ := at_drop hl
      refine go 9 _ hl _ _ fun H1 mv R1 O1 => ?_
      obtain ⟨q1, ho1⟩ := O1.at_
      refine sk 9 rfl (by decide) ?_
      refine sk 9 rfl (by decide) ?_
      refine sk 9 rfl (by decide) ?_
      refine sk 9 rfl (by decide) ?_
      refine sk 9 rfl (by decide) ?_
      refine sk 9 rfl (by decide) ?_
      refine sk 9 rfl (by decide) ?_
      refine sk 9 rfl (by decide) ?_
      refine sk 9 rfl (by decide) ?_
      refine ht 9 rfl (by decide) ?_
      exact call_in (pa_1 pu_v (pa_1 pu_v pa_0)) ⟨o, rp, dx, ca, D, st, ms, i + 1, a, b, m, d, r, rfl, O1, hn, R1, hms, hd1, hm, h4, k.mv mv (by omega)⟩
    | books r =>
      obtain ⟨_, hd1, hln⟩ := at_drop hl
      refine go 10 _ hl _ _ fun H1 mv R1 O1 => ?_
      obtain ⟨q1, ho1⟩ := O1.at_
      refine sk 10 rfl (by decide) ?_
      refine sk 10 rfl (by decide) ?_
      refine sk 10 rfl (by decide) ?_
      refine sk 10 rfl (by decide) ?_
      refine sk 10 rfl (by decide) ?_
      refine sk 10 rfl (by decide) ?_
      refine sk 10 rfl (by decide) ?_
      refine sk 10 rfl (by decide) ?_
      refine sk 10 rfl (by decide) ?_
      refine sk 10 rfl (by decide) ?_
      refine ht 10 rfl (by decide) ?_
      exact meth_in pu_v ho1 (by rfl) pa_0 ⟨o, D, st, rfl, O1, k.off mv R1.at_ hn⟩
end
end LF
end

section
set_option Elab.async false
set_option linter.all false
set_option maxRecDepth 100000
namespace LF
open PySem PySem.Spec PyProof.Rows L2
open Kct0 (Abs Trip Sold)
open Kct0Neutral (tell legsOf)
theorem ext_v {K : PySem.W.Frag} {to te : TE} {D : Ends} {σ : St} {H : Hp} {l b : Addr} {xs ys : List V} (ho : Pu to σ H (.ref l)) (he : Pu te σ H (.ref b)) (hl : H l = some (.lst xs)) (hb : H b = some (.lst ys)) (hs : xs.length + ys.length ≤ sizeLine) (h : D.nx σ (upd H l (.lst (xs ++ ys)))) :
    tDrop (tBM K "list" rExtend to (tCons te tNil)) D σ H := ho _ ⟨.inl ⟨rfl, _, SqL.of hl⟩, he _ ⟨l, b, xs, ys, rfl, rfl, hl, hb, hs, h⟩⟩
theorem refs_ints {as : List Addr} {ns : List Int} (h : as.map V.ref = ns.map V.int) : as = [] := by
  cases as with
  | nil => rfl
  | cons a as =>
    cases ns with
    | nil => cases h
    | cons n ns =>
      have h1 : V.ref a = V.int n := (List.cons.inj h).1
      cases h1
/-- a list of numbers that the office doesn't hold is written -/
theorem Off.lst {A : Ad} {H : Hp} {o : Addr} {D : OffD} {s : Abs} (h : Off A H o D s) {al : Addr} {ns : List Int} {ys : List V} (ha : H al = some (.lst (ns.map V.int))) (hn : ¬ D.ms o al) : Off A (upd H al (.lst ys)) o D s := by
  have kn : ∀ b u, H b = some u → b ≠ al → upd H al (.lst ys) b = some u := fun b u e hb => by rw [upd_ne hb]; exact e
  have k : Kp H (upd H al (.lst ys)) [] := kp_upd ha
  obtain ⟨d0, ho⟩ := h.at_
  refine { h with at_ := ⟨d0, k _ _ ho (n_off (by decide +kernel))⟩, fl_ := kn _ _ h.fl_ (fun q => hn (.inr (.inl q.symm))), sl_ := kn _ _ h.sl_ (fun q => hn (.inr (.inr (.inl q.symm)))), fares := h.fares.imp fun _ _ q => q.kp k (by decide +kernel), sales := fun i sa as t h1 h2 h3 => ?_ }
  obtain ⟨dx, ll, ca, tl, S, ap⟩ := h.sales i sa as t h1 h2 h3
  have ok := h.tok i t h3
  have n1 : ll ≠ al := fun q => by
    obtain ⟨las, hll, OL⟩ := S.legs
    rw [q, ha] at hll
    have e : las = [] := refs_ints (HO.lst.inj (Option.some.inj hll)).symm
    have := OL.len
    rw [e] at this
    have := ok.one
    simp at *
    omega
  have n2 : tl ≠ al := fun q => by
    have htl := S.ticks.1
    rw [q, ha] at htl
    have e : as = [] := refs_ints (HO.lst.inj (Option.some.inj htl)).symm
    have h5 := S.ticks.2.len
    rw [e, withStart_len] at h5
    have h6 : t.sold = [] := List.length_eq_zero_iff.mp h5.symm
    have h7 := ok.sum
    rw [h6] at h7
    have h8 : legsSum [] = 0 := rfl
    have := ok.one
    omega
  exact ⟨dx, ll, ca, tl, ⟨k _ _ S.at_ (n_sale (by decide +kernel)), S.legs.ne kn ⟨_, ha⟩ n1, S.card.kp k (by decide +kernel), S.ticks.ne kn ⟨_, ha⟩ n2⟩, ap⟩
section
variable {P : Program} {w : World} {K : PySem.W.Frag} {mg : Str → Option Value} {base : Heap} {A : Ad}
def spAnswers (K : PySem.W.Frag) : Sp := fun vs H Q _ => ∃ (ca : Addr) (ms : List Nat), vs = [.ref ca] ∧ SqL K H ca (nats ms) ∧ ms.length ≤ 31000 ∧ PyKct0.answers_asked (zs ms) = true ∧ ∀ (H' : Hp) (p : Addr), H' p = some (.lst ((PyKct0.answers (zs ms)).map V.int)) → Q (.ref p) H'
theorem scAnswers : FnScope ["calls", "office", "reader", "answered", "answer"] ["calls"] (defScope sAnswers) := ⟨rfl, rfl, rfl, by decide +kernel, rfl, by decide +kernel, by decide +kernel⟩
theorem pu_end {ta : TE} {σ : St} {H : Hp} {rp dx ca : Addr} {ms : List Nat} {i : Nat} {E : XK} (ho : Pu ta σ H (.ref rp)) (R : Rdr A K H rp dx ca ms i) : Pu (tMeth A.R "at_end" (spEnd A K) [] E ta tNil) σ H (.bl (decide (ms.length ≤ i))) := fun Q q => meth_in ho R.at_ (by rfl) pa_0 ⟨rp, dx, ca, ms, i, rfl, R, q⟩
theorem ok_answers {f fO fR fE fC : Addr} {fd fdO fdR fdE fdC : FuncData} (F : Fun K "answers" "answers" sAnswers f fd) (TO : TC K mg "Office" A.O fO nOff) (TR : TC K mg "Reader" A.R fR nRd) (B : TB mg)
    (MO : FnOk P w K mg base CX0 2 fO fdO ["self"] (spOffI A)) (bO : Binds K fdO ["self"] []) (MR : FnOk P w K mg base CX0 1 fR fdR ["self", "numbers"] (spI A.R 1 fRd)) (bR : Binds K fdR ["self", "numbers"] [])
    (Me : MeT P w K mg base 1 A.R "at_end" ["self"] (spEnd A K) fE fdE) (L : FnT P w K mg base 7 "answer_call" ["office", "reader"] (spACall A K) fC fdC) : FnOk P w K mg base CX0 8 f fd ["calls"] (spAnswers K) := by
  refine F.ok scAnswers (fun vs H Q E h => ?_) (fun cdv A' outer s H vs Q E hr h => ?_)
  · obtain ⟨ca, ms, rfl, _⟩ := h
    rfl
  · obtain ⟨ca, ms, rfl, hS, hms, hask, k⟩ := h
    have nd := scAnswers.nd
    have hr1 : Room 1 _ := hr.mono (by decide)
    have hr2 : Room 2 _ := hr.mono (by decide)
    have hr3 : Room 3 _ := hr.mono (by decide)
    refine ⟨_, pss_cons (ps_set (i := 1) nd rfl (Or.inl rfl) (pe_make0 TO.mki MO hr3 rfl TO.mgC bO .nil pass0))
      (pss_cons (ps_set (i := 2) nd rfl (Or.inl rfl) (pmake TR MR bR hr2 (pa_cons (pv 0) pa_nil)))
      (pss_cons (ps_set (i := 3) nd rfl (Or.inl rfl) (pe_lst pa_nil))
      (pss_cons (ps_while PassesOwn.never (pt_not (ptru (pe_meth0 (pv 2) TR.cl Me.me Me.ok hr1 Me.b .nil pass0)))
        (pss_cons (ps_set (i := 4) nd rfl (Or.inl rfl) (pcall L hr (pa_cons (pv 1) (pa_cons (pv 2) pa_nil))))
        (pss_cons (ps_expr (pe_bm PySem.F.plainAttrs_list PySem.F.slot_list_append PySem.F.type_list_append mt_append (pv 3) (pa_cons (pe_callB call_len_seq (by rfl) B.len PySem.boot_len (pa_cons (pv 4) pa_nil)) pa_nil)))
        (pss_one (ps_expr (pe_bm PySem.F.plainAttrs_list PySem.F.slot_list_extend PySem.F.type_list_extend mt_extend (pv 3) (pa_cons (pv 4) pa_nil)))))))
      (pss_one (ps_ret (pv 3)))))), ?_⟩
    obtain ⟨cs0, hcs0, hdue, hok0, hsz⟩ := asked_is hask
    -- office = Office()
    refine asg_s ?_
    intro o dO no ndO neO
    refine ⟨o, dO, rfl, upd_same, fun H1 fl sl n1 n2 n3 h1 h2 h3 h4 => ⟨rfl, ?_⟩⟩
    have sO : Same H (upd (upd H dO (.own o)) o (.ins A.O dO [])) := fun b u e => by rw [upd_ne (ne_of_none e no), upd_ne (ne_of_none e ndO)]; exact e
    have s1 : Same H H1 := fun b u e => h4 b u (sO b u e) (ne_of_none e no)
    have O1 : Off A H1 o ⟨fl, sl, [], [], []⟩ (Kct0.first 0) := off_first h1 h2 h3 n3
    have new1 : ∀ b, (⟨fl, sl, [], [], []⟩ : OffD).ms o b → H b = none := fun b hb => by
      rcases hb with z | z | z | z | z | ⟨l, z, _⟩
      · rw [z]; exact no
      · rw [z]; exact sO.free n1
      · rw [z]; exact sO.free n2
      · cases z
      · cases z
      · cases z
    generalize (⟨fl, sl, [], [], []⟩ : OffD) = D1 at O1 new1
    -- reader = Reader(calls)
    refine asg_s (pu_makeP (us := [.ref ca]) (fs := rdF ca 0) (pa_1 pu_v pa_0) rfl ⟨ca, rfl, rfl⟩ fun rp dR nrp ndR neR => ?_)
    have s2 : Same H1 (mkI H1 A.R rp dR (rdF ca 0)) := mkI_same nrp ndR
    have hrp : mkI H1 A.R rp dR (rdF ca 0) rp = some (.ins A.R dR (rdF ca 0)) := mkI_at
    generalize mkI H1 A.R rp dR (rdF ca 0) = H2 at s2 hrp
    have nrp0 : H rp = none := s1.free nrp
    -- answered = []
    refine asg_s (lst_in pa_0 (Nat.zero_le _) fun al nal => ?_)
    have s3 : Same H2 (upd H2 al (.lst [])) := same_new nal
    have hal : upd H2 al (.lst []) al = some (.lst []) := upd_same
    generalize upd H2 al (.lst []) = H3 at s3 hal
    have nal0 : H al = none := (s1.trans s2).free nal
    have nms : ∀ b, D1.ms o b → H1 b ≠ none := O1.dom
    refine while_pt (fun m σ H' => ∃ (v4 : Option V) (i f : Nat) (cs : List (List (List Int))) (D : OffD) (st : Abs) (ans : List Int), σ = [some (.ref ca), some (.ref o), some (.ref rp), some (.ref al), v4] ∧ m = ms.length - i ∧ i ≤ ms.length ∧ Same H H' ∧ Off A H' o D st ∧ (∀ b, D.ms o b → H b = none) ∧ ¬ D.ms o rp ∧ ¬ D.ms o al ∧
        H' rp = some (.ins A.R dR (rdF ca i)) ∧ H' al = some (.lst (ans.map V.int)) ∧ PyFlat.calls PyKct0.shape f (zs (ms.drop i)) = some cs ∧ (∀ c ∈ cs, Kct0Neutral.asked1 (PyKct0.whole c) = true) ∧ ans ++ due st cs = PyKct0.answers (zs ms))
      ms.length ⟨none, 0, _, cs0, D1, Kct0Neutral.start, [], rfl, rfl, Nat.zero_le _, (s1.trans s2).trans s3, (O1.same s2).same s3, new1, fun q => nms rp q nrp, fun q => nms al q (s2.free nal), s3 _ _ hrp, hal, hcs0, hok0, hdue.symm⟩ ?_
    rintro m σ H4 ⟨v4, i, ff, cs, D, st, ans, rfl, rfl, hi, s4, O4, new4, nr4, na4, hrp4, hal4, hcs, hok, hans⟩
    have R4 : Rdr A K H4 rp dR ca ms i := ⟨hrp4, fun H' mv => Same.seq (H := H) (fun b u e => mv.keep b u (s4 b u e) (ne_of_none e nrp0)) hS⟩
    refine ⟨_, pt_not' (pt_bl (pu_end pu_v R4)), fun hb Nn hN => ?_, fun hb => ?_⟩
    · have hlt : i < ms.length := by
        have : decide (ms.length ≤ i) = false := by simpa using hb
        have := of_decide_eq_false this
        omega
      obtain ⟨p, r, hpr⟩ : ∃ p r, ms.drop i = p :: r := ⟨_, _, List.drop_eq_getElem_cons hlt⟩
      rw [hpr] at hcs
      obtain ⟨f', c, t, cs', g1, g2, rfl⟩ := calls_cons (p := (p : Int)) (r := zs r) hcs
      obtain ⟨j, hC, ht, hj1, hj2⟩ := call_is (l := p :: r) g1 (hok c (List.mem_cons_self ..))
      have hjl : i + j ≤ ms.length := by
        have := congrArg List.length hpr
        rw [List.length_drop] at this
        omega
      have nalrp : al ≠ rp := fun q => by rw [q, hrp4] at hal4; cases hal4
      refine asg_s (call_in (pa_1 pu_v (pa_1 pu_v pa_0)) ⟨o, rp, dR, ca, D, st, ms, i, j, Kct0Neutral.call (PyKct0.whole c), rfl, O4, nr4, R4, by omega, by rw [hpr]; exact hC, fun H5 D5 ra O5 hrp5 kp5 new5 nra hra => ?_⟩)
      have hal5 := kp5 _ _ hal4 na4 nalrp
      have s5 : Same H H5 := fun b u e => kp5 b u (s4 b u e) (fun q => by rw [new4 b q] at e; cases e) (ne_of_none e nrp0)
      have new5' : ∀ b, D5.ms o b → H b = none := fun b hb' => by
        rcases new5 b hb' with z | z
        · exact new4 b z
        · exact s4.free z
      have nal5 : ¬ D5.ms o al := fun q => by
        rcases new5 al q with z | z
        · exact na4 z
        · rw [z] at hal4; cases hal4
      have nrp5 : ¬ D5.ms o rp := fun q => by
        rcases new5 rp q with z | z
        · exact nr4 z
        · rw [z] at hrp4; cases hrp4
      have nra2 : ra ≠ al := fun q => by rw [q, hal4] at nra; cases nra
      rw [due_cons] at hans
      generalize hans2 : tell (Kct0.step st (Kct0Neutral.call (PyKct0.whole c))).2 = tt at hra hans
      have hlen : ans.length + (tt.length + 1) ≤ 2000000 := by
        have h6 := congrArg List.length hans
        rw [List.length_append, List.length_cons, List.length_append] at h6
        omega
      refine app_s pu_v (pu_len (pa_1 pu_v pa_0) (SqL.of hra)) hal5 (Nat.lt_of_lt_of_le (show (ans.map V.int).length < 2000001 by rw [List.length_map]; omega) (by decide)) ?_
      have e6 : ans.map V.int ++ [V.int ((tt.map V.int).length : Int)] = (ans ++ [(tt.length : Int)]).map V.int := by
        rw [List.map_append, List.length_map]
        rfl
      rw [e6]
      have O6 := O5.lst (ys := (ans ++ [(tt.length : Int)]).map V.int) hal5 nal5
      refine ext_v pu_v pu_v upd_same (by rw [upd_ne nra2]; exact hra) ?_ ?_
      · refine Nat.le_trans (m := 2000000) ?_ (by decide)
        rw [List.length_map, List.length_map, List.length_append]
        show ans.length + 1 + tt.length ≤ _
        omega
      · rw [upd_upd, ← List.map_append]
        have O7 := O5.lst (ys := (ans ++ [(tt.length : Int)] ++ tt).map V.int) hal5 nal5
        refine hN (ms.length - (i + j)) _ _ (by omega) ⟨_, i + j, f', cs', D5, (Kct0.step st (Kct0Neutral.call (PyKct0.whole c))).1, ans ++ [(tt.length : Int)] ++ tt, rfl, rfl, hjl, ?_, O7, new5', nrp5, nal5, ?_, upd_same, ?_, fun c' hc' => hok c' (List.mem_cons_of_mem _ hc'), ?_⟩
        · exact same_upd s5 nal0
        · rw [upd_ne (Ne.symm nalrp)]
          exact hrp5
        · rw [drop_add (j := j) hpr, ← ht]
          exact g2
        · rw [← hans, List.append_assoc, List.append_assoc]
          rfl
    · have hge : ms.length ≤ i := by
        have : decide (ms.length ≤ i) = true := by simpa using hb
        exact of_decide_eq_true this
      rw [List.drop_eq_nil_of_le hge] at hcs
      have e := calls_nil hcs
      subst e
      rw [due_nil, List.append_nil] at hans
      rw [hans] at hal4
      exact ret_1 pu_v (k H4 al hal4)
end
end LF
end

section
set_option Elab.async false
set_option linter.all false
set_option maxRecDepth 100000
namespace LF
open PySem PySem.Spec PyProof.Rows L2
theorem fun_bindsTo {K : PySem.W.Frag} {x qual : Str} {st : Stmt} {f : Addr} {fd : FuncData} {ps : List Str} (F : Fun K x qual st f fd)
    (h : ∀ (kV doc pm : Value) (an : Option Addr) (cdv ct : Value) (us : List Value), us.length = ps.length → bindArgs (PySem.W.fnOf x qual (defArgs st) (defBody st) (defScope st) .none kV doc pm an cdv ct) ⟨us, []⟩ = pure (ps.zip us)) : ∀ (s : Shared) (us : List Value), us.length = ps.length → BindsTo s fd ⟨us, []⟩ (ps.zip us) := by
  obtain ⟨oc, od, kV, doc, pm, an, cdv, ct, osl, rfl, lk, hcd⟩ := F.ex
  exact fun s us hu => .of_eq (h kV doc pm an cdv ct us hu)
theorem zs_of : ∀ {l : List Int}, (∀ x ∈ l, 0 ≤ x) → zs (l.map Int.toNat) = l
  | [], _ => rfl
  | a :: l, h => by
    show ((a.toNat : Nat) : Int) :: zs (l.map Int.toNat) = a :: l
    rw [zs_of fun x hx => h x (List.mem_cons_of_mem _ hx), show ((a.toNat : Nat) : Int) = a from by have := h a (List.mem_cons_self ..); omega]
theorem nats_of {l : List Int} (h : ∀ x ∈ l, 0 ≤ x) : nats (l.map Int.toNat) = l.map V.int := by
  have e := zs_of h
  have e2 : nats (l.map Int.toNat) = (zs (l.map Int.toNat)).map V.int := by
    unfold nats zs
    simp only [List.map_map]
    rfl
  rw [e2, e]
/-! ### the whole program out of its parts -/
set_option maxHeartbeats 8000000 in
theorem assemble {P : Program} {w : World} {K : PySem.W.Frag} {mg : Str → Option Value} {A : Ad} {iLeg iFare iCard iTicket iStretch iSale iOffice iReader f_grow f_legs_left f_next_leg f_next_ticket f_is_touched f_may_give_back f_tickets_to_give_back f_exchange f_reset f_begin f_add_fare f_has_fare f_close_fare f_set_price f_ask f_is_time f_buy f_has_sale f_list_tickets f_ride f_give_back f_change f_books f_at_end f_take f_take_many f_take_row f_legs_of f_is_leg f_is_journey f_covers f_ticket_cost f_offers_of f_best_offer f_best_plan f_tickets_of f_cheapest f_total_paid f_is_fare f_is_card f_answer_price f_answer_ask f_answer_buy f_answer_ride f_answer_back f_answer_change f_answer_call f_answers t0 : Addr} {dILeg dIFare dICard dITicket dIStretch dISale dIOffice dIReader d_grow d_legs_left d_next_leg d_next_ticket d_is_touched d_may_give_back d_tickets_to_give_back d_exchange d_reset d_begin d_add_fare d_has_fare d_close_fare d_set_price d_ask d_is_time d_buy d_has_sale d_list_tickets d_ride d_give_back d_change d_books d_at_end d_take d_take_many d_take_row d_legs_of d_is_leg d_is_journey d_covers d_ticket_cost d_offers_of d_best_offer d_best_plan d_tickets_of d_cheapest d_total_paid d_is_fare d_is_card d_answer_price d_answer_ask d_answer_buy d_answer_ride d_answer_back d_answer_change d_answer_call d_answers : FuncData} (G1 : TG1 mg) (G2 : TG2 mg) (G3 : TG3 mg) (B : TB mg) (N : NoLegs K mg t0)
    (TLeg : TC K mg "Leg" A.L iLeg nLeg) (FILeg : Fun K "__init__" "Leg.__init__" sLegI iLeg dILeg)
    (TFare : TC K mg "Fare" A.F iFare nFare) (FIFare : Fun K "__init__" "Fare.__init__" sFareI iFare dIFare)
    (TCard : TC K mg "Card" A.C iCard nCard) (FICard : Fun K "__init__" "Card.__init__" sCardI iCard dICard)
    (TTicket : TC K mg "Ticket" A.T iTicket nTicket) (FITicket : Fun K "__init__" "Ticket.__init__" sTicketI iTicket dITicket)
    (TStretch : TC K mg "Stretch" A.S iStretch nStr) (FIStretch : Fun K "__init__" "Stretch.__init__" sStrI iStretch dIStretch)
    (TSale : TC K mg "Sale" A.Sa iSale nSale) (FISale : Fun K "__init__" "Sale.__init__" sSaleI iSale dISale)
    (TOffice : TC K mg "Office" A.O iOffice nOff) (FIOffice : Fun K "__init__" "Office.__init__" sOffI iOffice dIOffice)
    (TReader : TC K mg "Reader" A.R iReader nRd) (FIReader : Fun K "__init__" "Reader.__init__" sRdI iReader dIReader)
    (F_grow : Fun K "grow" "Stretch.grow" sGrow f_grow d_grow) (m_grow : Meth K A.S "grow" f_grow)
    (F_legs_left : Fun K "legs_left" "Sale.legs_left" sLeft f_legs_left d_legs_left) (m_legs_left : Meth K A.Sa "legs_left" f_legs_left)
    (F_next_leg : Fun K "next_leg" "Sale.next_leg" sNextLeg f_next_leg d_next_leg) (m_next_leg : Meth K A.Sa "next_leg" f_next_leg)
    (F_next_ticket : Fun K "next_ticket" "Sale.next_ticket" sNextTick f_next_ticket d_next_ticket) (m_next_ticket : Meth K A.Sa "next_ticket" f_next_ticket)
    (F_is_touched : Fun K "is_touched" "Sale.is_touched" sTouched f_is_touched d_is_touched) (m_is_touched : Meth K A.Sa "is_touched" f_is_touched)
    (F_may_give_back : Fun K "may_give_back" "Sale.may_give_back" sMayGive f_may_give_back d_may_give_back) (m_may_give_back : Meth K A.Sa "may_give_back" f_may_give_back)
    (F_tickets_to_give_back : Fun K "tickets_to_give_back" "Sale.tickets_to_give_back" sToGive f_tickets_to_give_back d_tickets_to_give_back) (m_tickets_to_give_back : Meth K A.Sa "tickets_to_give_back" f_tickets_to_give_back)
    (F_exchange : Fun K "exchange" "Sale.exchange" sExch f_exchange d_exchange) (m_exchange : Meth K A.Sa "exchange" f_exchange)
    (F_reset : Fun K "reset" "Office.reset" sReset f_reset d_reset) (m_reset : Meth K A.O "reset" f_reset)
    (F_begin : Fun K "begin" "Office.begin" sBegin f_begin d_begin) (m_begin : Meth K A.O "begin" f_begin)
    (F_add_fare : Fun K "add_fare" "Office.add_fare" sAddFare f_add_fare d_add_fare) (m_add_fare : Meth K A.O "add_fare" f_add_fare)
    (F_has_fare : Fun K "has_fare" "Office.has_fare" sHasFare f_has_fare d_has_fare) (m_has_fare : Meth K A.O "has_fare" f_has_fare)
    (F_close_fare : Fun K "close_fare" "Office.close_fare" sClose f_close_fare d_close_fare) (m_close_fare : Meth K A.O "close_fare" f_close_fare)
    (F_set_price : Fun K "set_price" "Office.set_price" sSetPrice f_set_price d_set_price) (m_set_price : Meth K A.O "set_price" f_set_price)
    (F_ask : Fun K "ask" "Office.ask" sAsk f_ask d_ask) (m_ask : Meth K A.O "ask" f_ask)
    (F_is_time : Fun K "is_time" "Office.is_time" sIsTime f_is_time d_is_time) (m_is_time : Meth K A.O "is_time" f_is_time)
    (F_buy : Fun K "buy" "Office.buy" sBuy f_buy d_buy) (m_buy : Meth K A.O "buy" f_buy)
    (F_has_sale : Fun K "has_sale" "Office.has_sale" sHasSale f_has_sale d_has_sale) (m_has_sale : Meth K A.O "has_sale" f_has_sale)
    (F_list_tickets : Fun K "list_tickets" "Office.list_tickets" sList f_list_tickets d_list_tickets) (m_list_tickets : Meth K A.O "list_tickets" f_list_tickets)
    (F_ride : Fun K "ride" "Office.ride" sRide f_ride d_ride) (m_ride : Meth K A.O "ride" f_ride)
    (F_give_back : Fun K "give_back" "Office.give_back" sGive f_give_back d_give_back) (m_give_back : Meth K A.O "give_back" f_give_back)
    (F_change : Fun K "change" "Office.change" sChange f_change d_change) (m_change : Meth K A.O "change" f_change)
    (F_books : Fun K "books" "Office.books" sBooks f_books d_books) (m_books : Meth K A.O "books" f_books)
    (F_at_end : Fun K "at_end" "Reader.at_end" sAtEnd f_at_end d_at_end) (m_at_end : Meth K A.R "at_end" f_at_end)
    (F_take : Fun K "take" "Reader.take" sTake f_take d_take) (m_take : Meth K A.R "take" f_take)
    (F_take_many : Fun K "take_many" "Reader.take_many" sMany f_take_many d_take_many) (m_take_many : Meth K A.R "take_many" f_take_many)
    (F_take_row : Fun K "take_row" "Reader.take_row" sRow f_take_row d_take_row) (m_take_row : Meth K A.R "take_row" f_take_row)
    (F_legs_of : Fun K "legs_of" "legs_of" sLegsOf f_legs_of d_legs_of) (g_legs_of : mg "legs_of" = some (.ref f_legs_of))
    (F_is_leg : Fun K "is_leg" "is_leg" sIsLeg f_is_leg d_is_leg) (g_is_leg : mg "is_leg" = some (.ref f_is_leg))
    (F_is_journey : Fun K "is_journey" "is_journey" sIsJ f_is_journey d_is_journey) (g_is_journey : mg "is_journey" = some (.ref f_is_journey))
    (F_covers : Fun K "covers" "covers" sCov f_covers d_covers) (g_covers : mg "covers" = some (.ref f_covers))
    (F_ticket_cost : Fun K "ticket_cost" "ticket_cost" sCost f_ticket_cost d_ticket_cost) (g_ticket_cost : mg "ticket_cost" = some (.ref f_ticket_cost))
    (F_offers_of : Fun K "offers_of" "offers_of" sOffs f_offers_of d_offers_of) (g_offers_of : mg "offers_of" = some (.ref f_offers_of))
    (F_best_offer : Fun K "best_offer" "best_offer" sBOff f_best_offer d_best_offer) (g_best_offer : mg "best_offer" = some (.ref f_best_offer))
    (F_best_plan : Fun K "best_plan" "best_plan" sBPlan f_best_plan d_best_plan) (g_best_plan : mg "best_plan" = some (.ref f_best_plan))
    (F_tickets_of : Fun K "tickets_of" "tickets_of" sTicks f_tickets_of d_tickets_of) (g_tickets_of : mg "tickets_of" = some (.ref f_tickets_of))
    (F_cheapest : Fun K "cheapest" "cheapest" sCheap f_cheapest d_cheapest) (g_cheapest : mg "cheapest" = some (.ref f_cheapest))
    (F_total_paid : Fun K "total_paid" "total_paid" sTotal f_total_paid d_total_paid) (g_total_paid : mg "total_paid" = some (.ref f_total_paid))
    (F_is_fare : Fun K "is_fare" "is_fare" sIsFare f_is_fare d_is_fare) (g_is_fare : mg "is_fare" = some (.ref f_is_fare))
    (F_is_card : Fun K "is_card" "is_card" sIsCard f_is_card d_is_card) (g_is_card : mg "is_card" = some (.ref f_is_card))
    (F_answer_price : Fun K "answer_price" "answer_price" sAPrice f_answer_price d_answer_price) (g_answer_price : mg "answer_price" = some (.ref f_answer_price))
    (F_answer_ask : Fun K "answer_ask" "answer_ask" sAAsk f_answer_ask d_answer_ask) (g_answer_ask : mg "answer_ask" = some (.ref f_answer_ask))
    (F_answer_buy : Fun K "answer_buy" "answer_buy" sABuy f_answer_buy d_answer_buy) (g_answer_buy : mg "answer_buy" = some (.ref f_answer_buy))
    (F_answer_ride : Fun K "answer_ride" "answer_ride" sARide f_answer_ride d_answer_ride) (g_answer_ride : mg "answer_ride" = some (.ref f_answer_ride))
    (F_answer_back : Fun K "answer_back" "answer_back" sABack f_answer_back d_answer_back) (g_answer_back : mg "answer_back" = some (.ref f_answer_back))
    (F_answer_change : Fun K "answer_change" "answer_change" sAChange f_answer_change d_answer_change) (g_answer_change : mg "answer_change" = some (.ref f_answer_change))
    (F_answer_call : Fun K "answer_call" "answer_call" sACall f_answer_call d_answer_call) (g_answer_call : mg "answer_call" = some (.ref f_answer_call))
    (F_answers : Fun K "answers" "answers" sAnswers f_answers d_answers) (g_answers : mg "answers" = some (.ref f_answers)) :
    ∃ fd : FuncData, (∀ (s : Shared) (us : List Value), us.length = (["calls"] : List Str).length → BindsTo s fd ⟨us, []⟩ ((["calls"] : List Str).zip us)) ∧ ∀ base : Heap, K.In base → base.Ns mainGlobals mg → FnOk P w K mg base CX0 8 f_answers fd ["calls"] (spAnswers K) := by
  refine ⟨d_answers, fun_bindsTo F_answers (ps := ["calls"]) fun _ _ _ _ _ _ us hl => match us, hl with | [_], _ => rfl, fun base _ _ => ?_⟩
  have bLeg := FILeg.binds (ps := ["self", "source", "to", "dep", "arr"]) fun _ _ _ _ _ _ us hl => match us, hl with | [_, _, _, _, _], _ => rfl
  have bFare := FIFare.binds (ps := ["self", "told"]) fun _ _ _ _ _ _ us hl => match us, hl with | [_, _], _ => rfl
  have bCard := FICard.binds (ps := ["self", "off", "least"]) fun _ _ _ _ _ _ us hl => match us, hl with | [_, _, _], _ => rfl
  have bTicket := FITicket.binds (ps := ["self", "fare", "start", "leg_count", "paid"]) fun _ _ _ _ _ _ us hl => match us, hl with | [_, _, _, _, _], _ => rfl
  have bStretch := FIStretch.binds (ps := ["self", "leg"]) fun _ _ _ _ _ _ us hl => match us, hl with | [_, _], _ => rfl
  have bSale := FISale.binds (ps := ["self", "legs", "card", "tickets"]) fun _ _ _ _ _ _ us hl => match us, hl with | [_, _, _, _], _ => rfl
  have bOffice := FIOffice.binds (ps := ["self"]) fun _ _ _ _ _ _ us hl => match us, hl with | [_], _ => rfl
  have bReader := FIReader.binds (ps := ["self", "numbers"]) fun _ _ _ _ _ _ us hl => match us, hl with | [_, _], _ => rfl
  have b_grow := F_grow.binds (ps := ["self", "leg"]) fun _ _ _ _ _ _ us hl => match us, hl with | [_, _], _ => rfl
  have b_legs_left := F_legs_left.binds (ps := ["self"]) fun _ _ _ _ _ _ us hl => match us, hl with | [_], _ => rfl
  have b_next_leg := F_next_leg.binds (ps := ["self"]) fun _ _ _ _ _ _ us hl => match us, hl with | [_], _ => rfl
  have b_next_ticket := F_next_ticket.binds (ps := ["self"]) fun _ _ _ _ _ _ us hl => match us, hl with | [_], _ => rfl
  have b_is_touched := F_is_touched.binds (ps := ["self"]) fun _ _ _ _ _ _ us hl => match us, hl with | [_], _ => rfl
  have b_may_give_back := F_may_give_back.binds (ps := ["self", "ticket", "now"]) fun _ _ _ _ _ _ us hl => match us, hl with | [_, _, _], _ => rfl
  have b_tickets_to_give_back := F_tickets_to_give_back.binds (ps := ["self", "now"]) fun _ _ _ _ _ _ us hl => match us, hl with | [_, _], _ => rfl
  have b_exchange := F_exchange.binds (ps := ["self", "legs", "tickets"]) fun _ _ _ _ _ _ us hl => match us, hl with | [_, _, _], _ => rfl
  have b_reset := F_reset.binds (ps := ["self", "fee"]) fun _ _ _ _ _ _ us hl => match us, hl with | [_, _], _ => rfl
  have b_begin := F_begin.binds (ps := ["self", "fee"]) fun _ _ _ _ _ _ us hl => match us, hl with | [_, _], _ => rfl
  have b_add_fare := F_add_fare.binds (ps := ["self", "told"]) fun _ _ _ _ _ _ us hl => match us, hl with | [_, _], _ => rfl
  have b_has_fare := F_has_fare.binds (ps := ["self", "f"]) fun _ _ _ _ _ _ us hl => match us, hl with | [_, _], _ => rfl
  have b_close_fare := F_close_fare.binds (ps := ["self", "f"]) fun _ _ _ _ _ _ us hl => match us, hl with | [_, _], _ => rfl
  have b_set_price := F_set_price.binds (ps := ["self", "f", "price"]) fun _ _ _ _ _ _ us hl => match us, hl with | [_, _, _], _ => rfl
  have b_ask := F_ask.binds (ps := ["self", "off", "least", "legs"]) fun _ _ _ _ _ _ us hl => match us, hl with | [_, _, _, _], _ => rfl
  have b_is_time := F_is_time.binds (ps := ["self", "now"]) fun _ _ _ _ _ _ us hl => match us, hl with | [_, _], _ => rfl
  have b_buy := F_buy.binds (ps := ["self", "off", "least", "now", "legs"]) fun _ _ _ _ _ _ us hl => match us, hl with | [_, _, _, _, _], _ => rfl
  have b_has_sale := F_has_sale.binds (ps := ["self", "k"]) fun _ _ _ _ _ _ us hl => match us, hl with | [_, _], _ => rfl
  have b_list_tickets := F_list_tickets.binds (ps := ["self", "k"]) fun _ _ _ _ _ _ us hl => match us, hl with | [_, _], _ => rfl
  have b_ride := F_ride.binds (ps := ["self", "k", "now"]) fun _ _ _ _ _ _ us hl => match us, hl with | [_, _, _], _ => rfl
  have b_give_back := F_give_back.binds (ps := ["self", "k", "now"]) fun _ _ _ _ _ _ us hl => match us, hl with | [_, _, _], _ => rfl
  have b_change := F_change.binds (ps := ["self", "k", "now", "legs"]) fun _ _ _ _ _ _ us hl => match us, hl with | [_, _, _, _], _ => rfl
  have b_books := F_books.binds (ps := ["self"]) fun _ _ _ _ _ _ us hl => match us, hl with | [_], _ => rfl
  have b_at_end := F_at_end.binds (ps := ["self"]) fun _ _ _ _ _ _ us hl => match us, hl with | [_], _ => rfl
  have b_take := F_take.binds (ps := ["self"]) fun _ _ _ _ _ _ us hl => match us, hl with | [_], _ => rfl
  have b_take_many := F_take_many.binds (ps := ["self", "many"]) fun _ _ _ _ _ _ us hl => match us, hl with | [_, _], _ => rfl
  have b_take_row := F_take_row.binds (ps := ["self"]) fun _ _ _ _ _ _ us hl => match us, hl with | [_], _ => rfl
  have b_legs_of := F_legs_of.binds (ps := ["row"]) fun _ _ _ _ _ _ us hl => match us, hl with | [_], _ => rfl
  have b_is_leg := F_is_leg.binds (ps := ["leg"]) fun _ _ _ _ _ _ us hl => match us, hl with | [_], _ => rfl
  have b_is_journey := F_is_journey.binds (ps := ["legs"]) fun _ _ _ _ _ _ us hl => match us, hl with | [_], _ => rfl
  have b_covers := F_covers.binds (ps := ["fare", "stretch"]) fun _ _ _ _ _ _ us hl => match us, hl with | [_, _], _ => rfl
  have b_ticket_cost := F_ticket_cost.binds (ps := ["price", "card"]) fun _ _ _ _ _ _ us hl => match us, hl with | [_, _], _ => rfl
  have b_offers_of := F_offers_of.binds (ps := ["fares", "card"]) fun _ _ _ _ _ _ us hl => match us, hl with | [_, _], _ => rfl
  have b_best_offer := F_best_offer.binds (ps := ["fares", "offers", "stretch"]) fun _ _ _ _ _ _ us hl => match us, hl with | [_, _, _], _ => rfl
  have b_best_plan := F_best_plan.binds (ps := ["fares", "offers", "legs", "start", "plans"]) fun _ _ _ _ _ _ us hl => match us, hl with | [_, _, _, _, _], _ => rfl
  have b_tickets_of := F_tickets_of.binds (ps := ["plans"]) fun _ _ _ _ _ _ us hl => match us, hl with | [_], _ => rfl
  have b_cheapest := F_cheapest.binds (ps := ["fares", "card", "legs"]) fun _ _ _ _ _ _ us hl => match us, hl with | [_, _, _], _ => rfl
  have b_total_paid := F_total_paid.binds (ps := ["tickets"]) fun _ _ _ _ _ _ us hl => match us, hl with | [_], _ => rfl
  have b_is_fare := F_is_fare.binds (ps := ["fare"]) fun _ _ _ _ _ _ us hl => match us, hl with | [_], _ => rfl
  have b_is_card := F_is_card.binds (ps := ["card"]) fun _ _ _ _ _ _ us hl => match us, hl with | [_], _ => rfl
  have b_answer_price := F_answer_price.binds (ps := ["office", "reader"]) fun _ _ _ _ _ _ us hl => match us, hl with | [_, _], _ => rfl
  have b_answer_ask := F_answer_ask.binds (ps := ["office", "reader"]) fun _ _ _ _ _ _ us hl => match us, hl with | [_, _], _ => rfl
  have b_answer_buy := F_answer_buy.binds (ps := ["office", "reader"]) fun _ _ _ _ _ _ us hl => match us, hl with | [_, _], _ => rfl
  have b_answer_ride := F_answer_ride.binds (ps := ["office", "reader"]) fun _ _ _ _ _ _ us hl => match us, hl with | [_, _], _ => rfl
  have b_answer_back := F_answer_back.binds (ps := ["office", "reader"]) fun _ _ _ _ _ _ us hl => match us, hl with | [_, _], _ => rfl
  have b_answer_change := F_answer_change.binds (ps := ["office", "reader"]) fun _ _ _ _ _ _ us hl => match us, hl with | [_, _], _ => rfl
  have b_answer_call := F_answer_call.binds (ps := ["office", "reader"]) fun _ _ _ _ _ _ us hl => match us, hl with | [_, _], _ => rfl
  have ILeg : FnOk P w K mg base CX0 1 iLeg dILeg ["self", "source", "to", "dep", "arr"] (spI A.L 4 fLeg) := ok_legI FILeg TLeg
  have ICard : FnOk P w K mg base CX0 1 iCard dICard ["self", "off", "least"] (spI A.C 2 fCard) := ok_cardI FICard TCard
  have IFare : FnOk P w K mg base CX0 1 iFare dIFare ["self", "told"] (spFareI A.F K) := ok_fareI FIFare TFare
  have ITicket : FnOk P w K mg base CX0 1 iTicket dITicket ["self", "fare", "start", "leg_count", "paid"] (spI A.T 4 fTicket) := ok_ticketI FITicket TTicket
  have IStretch : FnOk P w K mg base CX0 1 iStretch dIStretch ["self", "leg"] (spStrI A.S A.L) := ok_strI FIStretch TStretch TLeg G1
  have ISale : FnOk P w K mg base CX0 1 iSale dISale ["self", "legs", "card", "tickets"] (spI A.Sa 3 fSale) := ok_saleI FISale TSale
  have IReader : FnOk P w K mg base CX0 1 iReader dIReader ["self", "numbers"] (spI A.R 1 fRd) := ok_rdI FIReader TReader
  have L_is_leg : FnT P w K mg base 1 "is_leg" ["leg"] (spIsLeg A.L) f_is_leg d_is_leg := ⟨ok_isLeg F_is_leg TLeg G1, g_is_leg, F_is_leg.kp, b_is_leg⟩
  have L_is_journey : FnT P w K mg base 2 "is_journey" ["legs"] (spIsJ A.L) f_is_journey d_is_journey := ⟨ok_isJ F_is_journey TLeg G1 B L_is_leg, g_is_journey, F_is_journey.kp, b_is_journey⟩
  have L_legs_of : FnT P w K mg base 3 "legs_of" ["row"] (spLegsOf A.L K) f_legs_of d_legs_of := ⟨ok_legsOf F_legs_of TLeg B ILeg bLeg, g_legs_of, F_legs_of.kp, b_legs_of⟩
  have L_covers : FnT P w K mg base 1 "covers" ["fare", "stretch"] (spCov A.F A.S) f_covers d_covers := ⟨ok_cov F_covers TFare TStretch G1, g_covers, F_covers.kp, b_covers⟩
  have L_ticket_cost : FnT P w K mg base 1 "ticket_cost" ["price", "card"] (spCost A.C) f_ticket_cost d_ticket_cost := ⟨ok_cost F_ticket_cost TCard B, g_ticket_cost, F_ticket_cost.kp, b_ticket_cost⟩
  have L_offers_of : FnT P w K mg base 2 "offers_of" ["fares", "card"] (spOffs A.F A.C K) f_offers_of d_offers_of := ⟨ok_offs (fI2 := iCard) F_offers_of TFare B L_ticket_cost, g_offers_of, F_offers_of.kp, b_offers_of⟩
  have L_best_offer : FnT P w K mg base 2 "best_offer" ["fares", "offers", "stretch"] (spBOff A.F A.S K) f_best_offer d_best_offer := ⟨ok_bOff F_best_offer L_covers, g_best_offer, F_best_offer.kp, b_best_offer⟩
  have M_grow : MeT P w K mg base 1 A.S "grow" ["self", "leg"] (spGrow A.S A.L) f_grow d_grow := ⟨ok_grow F_grow TStretch TLeg G1 B, m_grow, b_grow⟩
  have L_best_plan : FnT P w K mg base 3 "best_plan" ["fares", "offers", "legs", "start", "plans"] (spBPlan A.F A.L K) f_best_plan d_best_plan := ⟨ok_bPlan (fIL := iLeg) F_best_plan TStretch B IStretch bStretch M_grow L_best_offer, g_best_plan, F_best_plan.kp, b_best_plan⟩
  have L_tickets_of : FnT P w K mg base 3 "tickets_of" ["plans"] (spTicks A.T K) f_tickets_of d_tickets_of := ⟨ok_ticks F_tickets_of TTicket B ITicket bTicket, g_tickets_of, F_tickets_of.kp, b_tickets_of⟩
  have L_cheapest : FnT P w K mg base 4 "cheapest" ["fares", "card", "legs"] (spCheap A.F A.C A.L A.T) f_cheapest d_cheapest := ⟨ok_cheap F_cheapest B N L_offers_of L_best_plan L_tickets_of, g_cheapest, F_cheapest.kp, b_cheapest⟩
  have L_total_paid : FnT P w K mg base 1 "total_paid" ["tickets"] (spTotal A.T) f_total_paid d_total_paid := ⟨ok_total F_total_paid TTicket B, g_total_paid, F_total_paid.kp, b_total_paid⟩
  have M_legs_left : MeT P w K mg base 1 A.Sa "legs_left" ["self"] (spLeft A) f_legs_left d_legs_left := ⟨ok_left F_legs_left TSale B, m_legs_left, b_legs_left⟩
  have M_next_leg : MeT P w K mg base 1 A.Sa "next_leg" ["self"] (spNextLeg A) f_next_leg d_next_leg := ⟨ok_nextLeg F_next_leg TSale, m_next_leg, b_next_leg⟩
  have M_next_ticket : MeT P w K mg base 1 A.Sa "next_ticket" ["self"] (spNextTick A) f_next_ticket d_next_ticket := ⟨ok_nextTick F_next_ticket TSale TTicket, m_next_ticket, b_next_ticket⟩
  have M_is_touched : MeT P w K mg base 1 A.Sa "is_touched" ["self"] (spTouched A) f_is_touched d_is_touched := ⟨ok_touched F_is_touched TSale TTicket B, m_is_touched, b_is_touched⟩
  have M_may_give_back : MeT P w K mg base 1 A.Sa "may_give_back" ["self", "ticket", "now"] (spMayGive A) f_may_give_back d_may_give_back := ⟨ok_mayGive F_may_give_back TSale TTicket TLeg, m_may_give_back, b_may_give_back⟩
  have M_tickets_to_give_back : MeT P w K mg base 2 A.Sa "tickets_to_give_back" ["self", "now"] (spToGive A) f_tickets_to_give_back d_tickets_to_give_back := ⟨ok_toGive F_tickets_to_give_back TSale M_may_give_back, m_tickets_to_give_back, b_tickets_to_give_back⟩
  have M_exchange : MeT P w K mg base 1 A.Sa "exchange" ["self", "legs", "tickets"] (spExch A) f_exchange d_exchange := ⟨ok_exch F_exchange TSale, m_exchange, b_exchange⟩
  have L_is_fare : FnT P w K mg base 1 "is_fare" ["fare"] (spIsFare A) f_is_fare d_is_fare := ⟨ok_isFare F_is_fare TFare G1 G2, g_is_fare, F_is_fare.kp, b_is_fare⟩
  have L_is_card : FnT P w K mg base 1 "is_card" ["card"] (spIsCard A) f_is_card d_is_card := ⟨ok_isCard F_is_card TCard G2, g_is_card, F_is_card.kp, b_is_card⟩
  have M_reset : MeT P w K mg base 1 A.O "reset" ["self", "fee"] (spReset A) f_reset d_reset := ⟨ok_reset F_reset TOffice, m_reset, b_reset⟩
  have IOffice : FnOk P w K mg base CX0 2 iOffice dIOffice ["self"] (spOffI A) := ok_offI FIOffice TOffice M_reset
  have M_begin : MeT P w K mg base 2 A.O "begin" ["self", "fee"] (spBegin A) f_begin d_begin := ⟨ok_begin F_begin TOffice G2 M_reset, m_begin, b_begin⟩
  have M_add_fare : MeT P w K mg base 3 A.O "add_fare" ["self", "told"] (spAddFare A) f_add_fare d_add_fare := ⟨ok_addFare F_add_fare TOffice TFare G2 B IFare bFare L_is_fare, m_add_fare, b_add_fare⟩
  have M_has_fare : MeT P w K mg base 1 A.O "has_fare" ["self", "f"] (spHasFare A) f_has_fare d_has_fare := ⟨ok_hasFare F_has_fare TOffice TFare B, m_has_fare, b_has_fare⟩
  have M_close_fare : MeT P w K mg base 2 A.O "close_fare" ["self", "f"] (spClose A) f_close_fare d_close_fare := ⟨ok_close F_close_fare TOffice TFare G2 M_has_fare, m_close_fare, b_close_fare⟩
  have M_set_price : MeT P w K mg base 2 A.O "set_price" ["self", "f", "price"] (spSetPrice A) f_set_price d_set_price := ⟨ok_setPrice F_set_price TOffice TFare G2 M_has_fare, m_set_price, b_set_price⟩
  have Z5 : Lean5 P w K mg base A iCard f_is_card f_is_journey f_cheapest f_total_paid iTicket iLeg dICard d_is_card d_is_journey d_cheapest d_total_paid := ⟨TCard, TTicket, TLeg, ICard, bCard, L_is_card, L_is_journey, L_cheapest, L_total_paid⟩
  have M_ask : MeT P w K mg base 5 A.O "ask" ["self", "off", "least", "legs"] (spAsk A) f_ask d_ask := ⟨ok_ask F_ask TOffice G2 Z5, m_ask, b_ask⟩
  have M_is_time : MeT P w K mg base 1 A.O "is_time" ["self", "now"] (spIsTime A) f_is_time d_is_time := ⟨ok_isTime F_is_time TOffice G1, m_is_time, b_is_time⟩
  have M_buy : MeT P w K mg base 5 A.O "buy" ["self", "off", "least", "now", "legs"] (spBuy A) f_buy d_buy := ⟨ok_buy F_buy TOffice TSale G2 B Z5 ISale bSale M_is_time, m_buy, b_buy⟩
  have M_has_sale : MeT P w K mg base 1 A.O "has_sale" ["self", "k"] (spHasSale A) f_has_sale d_has_sale := ⟨ok_hasSale F_has_sale TOffice B, m_has_sale, b_has_sale⟩
  have M_list_tickets : MeT P w K mg base 2 A.O "list_tickets" ["self", "k"] (spList A) f_list_tickets d_list_tickets := ⟨ok_list F_list_tickets TOffice TSale TTicket G2 B M_has_sale, m_list_tickets, b_list_tickets⟩
  have M_ride : MeT P w K mg base 2 A.O "ride" ["self", "k", "now"] (spRide A) f_ride d_ride := ⟨ok_ride F_ride TOffice TSale TTicket TLeg G2 M_is_time M_has_sale M_legs_left M_next_leg M_next_ticket, m_ride, b_ride⟩
  have M_give_back : MeT P w K mg base 3 A.O "give_back" ["self", "k", "now"] (spGive A) f_give_back d_give_back := ⟨ok_give F_give_back TOffice TSale TTicket G2 B M_is_time M_has_sale M_tickets_to_give_back, m_give_back, b_give_back⟩
  have M_change : MeT P w K mg base 5 A.O "change" ["self", "k", "now", "legs"] (spChange A) f_change d_change := ⟨ok_change F_change TOffice TSale G2 B Z5 M_is_time M_has_sale M_is_touched M_exchange, m_change, b_change⟩
  have M_books : MeT P w K mg base 1 A.O "books" ["self"] (spBooks A) f_books d_books := ⟨ok_books F_books TOffice, m_books, b_books⟩
  have M_at_end : MeT P w K mg base 1 A.R "at_end" ["self"] (spEnd A K) f_at_end d_at_end := ⟨ok_end F_at_end TReader B, m_at_end, b_at_end⟩
  have M_take : MeT P w K mg base 1 A.R "take" ["self"] (spTake A K) f_take d_take := ⟨ok_take F_take TReader, m_take, b_take⟩
  have M_take_many : MeT P w K mg base 2 A.R "take_many" ["self", "many"] (spMany A K) f_take_many d_take_many := ⟨ok_many F_take_many TReader B M_take, m_take_many, b_take_many⟩
  have M_take_row : MeT P w K mg base 3 A.R "take_row" ["self"] (spRow A K) f_take_row d_take_row := ⟨ok_row F_take_row TReader M_take M_take_many, m_take_row, b_take_row⟩
  have ZR : LeanR P w K mg base A iOffice iReader f_take f_take_many f_take_row d_take d_take_many d_take_row := ⟨TOffice, TReader, M_take, M_take_many, M_take_row⟩
  have L_answer_price : FnT P w K mg base 3 "answer_price" ["office", "reader"] (spA2 A K .price) f_answer_price d_answer_price := ⟨ok_aPrice F_answer_price ZR M_set_price, g_answer_price, F_answer_price.kp, b_answer_price⟩
  have L_answer_ask : FnT P w K mg base 6 "answer_ask" ["office", "reader"] (spAAsk A K) f_answer_ask d_answer_ask := ⟨ok_aAsk F_answer_ask ZR M_ask L_legs_of, g_answer_ask, F_answer_ask.kp, b_answer_ask⟩
  have L_answer_buy : FnT P w K mg base 6 "answer_buy" ["office", "reader"] (spABuy A K) f_answer_buy d_answer_buy := ⟨ok_aBuy F_answer_buy ZR M_buy L_legs_of, g_answer_buy, F_answer_buy.kp, b_answer_buy⟩
  have L_answer_ride : FnT P w K mg base 3 "answer_ride" ["office", "reader"] (spA2 A K .ride) f_answer_ride d_answer_ride := ⟨ok_aRide F_answer_ride ZR M_ride, g_answer_ride, F_answer_ride.kp, b_answer_ride⟩
  have L_answer_back : FnT P w K mg base 4 "answer_back" ["office", "reader"] (spA2 A K .back) f_answer_back d_answer_back := ⟨ok_aBack F_answer_back ZR M_give_back, g_answer_back, F_answer_back.kp, b_answer_back⟩
  have L_answer_change : FnT P w K mg base 6 "answer_change" ["office", "reader"] (spAChange A K) f_answer_change d_answer_change := ⟨ok_aChange F_answer_change ZR M_change L_legs_of, g_answer_change, F_answer_change.kp, b_answer_change⟩
  have L_answer_call : FnT P w K mg base 7 "answer_call" ["office", "reader"] (spACall A K) f_answer_call d_answer_call := ⟨ok_aCall F_answer_call G3 ⟨ZR, M_begin, M_add_fare, M_close_fare, M_list_tickets, M_books, L_answer_price, L_answer_ask, L_answer_buy, L_answer_ride, L_answer_back, L_answer_change⟩, g_answer_call, F_answer_call.kp, b_answer_call⟩
  exact ok_answers F_answers TOffice TReader B IOffice bOffice IReader bReader M_at_end L_answer_call
/-! ### what the top has written, step by step -/
section
variable {K : PySem.W.Frag} {h : Heap} {mg : Str → Option Value} {G : Prop}
def noAll (K : PySem.W.Frag) (C : Addr) : List Str → Prop
  | [] => True
  | f :: fs => PySem.W.findIn K (.ref C) f = some none ∧ noAll K C fs
theorem noAll_mem {C : Addr} : ∀ {fs : List Str}, noAll K C fs → ∀ f ∈ fs, NoAttr K C f
  | [], _, f, hf => by cases hf
  | g :: fs, hn, f, hf => by
    rcases List.mem_cons.mp hf with z | z
    · rw [z]; exact hn.1
    · exact noAll_mem hn.2 f z
theorem st_class (nm : Str) (fs : List Str) {C fI : Addr} (X : K.In h) (Gn : h.Ns mainGlobals mg) (aC : PySem.W.nsIn K mainGlobals nm = some (some (.ref C))) (pg : PySem.W.plainGet K C Str.empty = true) (hd : PySem.W.hasDictIn K C = true) (po : PySem.W.plainOver K C = true)
    (sa : PySem.W.findIn K (.ref C) "__setattr__" = some (some (.builtin "object.__setattr__"))) (mk : PySem.W.makesIn K C = true) (a1 : PySem.W.findIn K (.ref C) "__init__" = some (some (.ref fI))) (i1 : PySem.W.isFn K (.ref fI) = true) (kc : PySem.W.keepIn K (.ref C) = true) (no : noAll K C fs) (k : TC K mg nm C fI fs → G) : G :=
  k ⟨⟨pg, hd, po, sa⟩, ⟨mk, a1, i1, kc⟩, PySem.W.mg_of X Gn aC, noAll_mem no⟩
theorem st_fn (x : Str) (st : Stmt) {f : Addr} {oc kV dc pm cd ct : Value} {od an : Option Addr} {sl : Array (Option Value)} (X : K.In h) (Gn : h.Ns mainGlobals mg) (a : PySem.W.nsIn K mainGlobals x = some (some (.ref f))) (l : K.lookup f = some ⟨oc, od, .func (PySem.W.fnOf x x (defArgs st) (defBody st) (defScope st) .none kV dc pm an cd ct), sl⟩)
    (c : PySem.W.codeIn K cd x = true) (kp : PySem.W.keepIn K (.ref f) = true) (k : ∀ fd, Fun K x x st f fd → mg x = some (.ref f) → G) : G := k _ (fun_mk l c kp) (PySem.W.mg_of X Gn a)
theorem st_me (C : Addr) (m qual : Str) (st : Stmt) {f : Addr} {oc kV dc pm cd ct : Value} {od an : Option Addr} {sl : Array (Option Value)} (a : PySem.W.findIn K (.ref C) m = some (some (.ref f))) (i : PySem.W.isFn K (.ref f) = true) (l : K.lookup f = some ⟨oc, od, .func (PySem.W.fnOf m qual (defArgs st) (defBody st) (defScope st) .none kV dc pm an cd ct), sl⟩)
    (c : PySem.W.codeIn K cd qual = true) (kp : PySem.W.keepIn K (.ref f) = true) (k : ∀ fd, Fun K m qual st f fd → Meth K C m f → G) : G := k _ (fun_mk l c kp) ⟨a, i, kp⟩
theorem st_mt {nm : Str} {C fI : Addr} {fs : List Str} (T : TC K mg nm C fI fs) (m qual : Str) (st : Stmt) {f : Addr} {oc kV dc pm cd ct : Value} {od an : Option Addr} {sl : Array (Option Value)} (a : PySem.W.findIn K (.ref C) m = some (some (.ref f))) (i : PySem.W.isFn K (.ref f) = true) (l : K.lookup f = some ⟨oc, od, .func (PySem.W.fnOf m qual (defArgs st) (defBody st) (defScope st) .none kV dc pm an cd ct), sl⟩)
    (c : PySem.W.codeIn K cd qual = true) (kp : PySem.W.keepIn K (.ref f) = true) (k : ∀ fd, Fun K m qual st f fd → Meth K C m f → G) : G := st_me C m qual st a i l c kp k
theorem st_int (x : Str) (n : Int) {t : Nat} (X : K.In h) (Gn : h.Ns mainGlobals mg) (a : PySem.W.nsIn K mainGlobals x = some (some (.int n t))) (k : GI mg x n → G) : G := k ⟨_, PySem.W.mg_of X Gn a, ⟨_, rfl⟩⟩
theorem st_none (x : Str) (X : K.In h) (Gn : h.Ns mainGlobals mg) (a : PySem.W.nsIn K mainGlobals x = some none) (k : mg x = none → G) : G := k (PySem.W.mg_none_of X Gn a)
theorem st_tup {t0 : Addr} {od : Option Addr} {n t1 t2 t3 t4 : Nat} {sl : Array (Option Value)} (X : K.In h) (Gn : h.Ns mainGlobals mg) (a : PySem.W.nsIn K mainGlobals "NO_LEGS_LEFT" = some (some (.ref t0))) (l : K.lookup t0 = some ⟨.type "tuple", od, .seq #[.int 0 t1, .int 0 t2, .int 0 t3, .int 0 t4] n, sl⟩) (k : NoLegs K mg t0 → G) : G :=
  k ⟨PySem.W.mg_of X Gn a, fun H => .inr ⟨_, _, _, l, rfl, rfl, by show 4 ≤ sizeLine; decide, .cons ⟨_, rfl⟩ (.cons ⟨_, rfl⟩ (.cons ⟨_, rfl⟩ (.cons ⟨_, rfl⟩ .nil)))⟩⟩
end
end LF
end

set_option Elab.async false
set_option linter.all false
open PySem PySem.W PyProof.Rows
/-! These names are taken, so that the head lays no twin of its heaps (a twin is not needed for the proof, and all of them together make the compiled file larger than 64 megabytes). Nothing below speaks of them. -/
def PySem.W.Fast.tw12432111310983451395 : Nat := 0
def PySem.W.Fast.tw12564802056540076445 : Nat := 0
def PySem.W.Fast.tw7960405904098826598 : Nat := 0
def PySem.W.Fast.tw18025887189191222045 : Nat := 0
def PySem.W.Fast.tw16800929832931123862 : Nat := 0
def PySem.W.Fast.tw6153683644829008208 : Nat := 0
def PySem.W.Fast.tw3475428806430741949 : Nat := 0
def PySem.W.Fast.tw3446586437196131721 : Nat := 0
def PySem.W.Fast.tw13692296485008881967 : Nat := 0
def PySem.W.Fast.tw14016805833644490940 : Nat := 0
def PySem.W.Fast.tw9590097402710927996 : Nat := 0
def PySem.W.Fast.tw10595719298170100992 : Nat := 0
def PySem.W.Fast.tw14470883770161786151 : Nat := 0
def PySem.W.Fast.tw12384865059812008263 : Nat := 0
def PySem.W.Fast.tw4387457864189204403 : Nat := 0
def PySem.W.Fast.tw10513220557535009550 : Nat := 0
def PySem.W.Fast.tw2016745617605198668 : Nat := 0
def PySem.W.Fast.tw7831720830194870095 : Nat := 0
def PySem.W.Fast.tw10947729891027107878 : Nat := 0
def PySem.W.Fast.tw12615537940933252953 : Nat := 0
def PySem.W.Fast.tw9629381827361987882 : Nat := 0
def PySem.W.Fast.tw3950568833019677417 : Nat := 0
def PySem.W.Fast.tw15278119910037543664 : Nat := 0
def PySem.W.Fast.tw2793121767911429691 : Nat := 0
def PySem.W.Fast.tw3552753762351384979 : Nat := 0
def PySem.W.Fast.tw11655578213878801836 : Nat := 0
def PySem.W.Fast.tw14119193961594725846 : Nat := 0
def PySem.W.Fast.tw4589187230310680953 : Nat := 0
def PySem.W.Fast.tw5593923054810829961 : Nat := 0
def PySem.W.Fast.tw5702668661884423541 : Nat := 0
def PySem.W.Fast.tw7475023169901344294 : Nat := 0
def PySem.W.Fast.tw13763334755873924104 : Nat := 0
def PySem.W.Fast.tw940379103845541084 : Nat := 0
def PySem.W.Fast.tw5250391183285275415 : Nat := 0
def PySem.W.Fast.tw3612181725790166732 : Nat := 0
def PySem.W.Fast.tw13300955972698819862 : Nat := 0
def PySem.W.Fast.tw2492017624486431778 : Nat := 0
def PySem.W.Fast.tw4500669498722029528 : Nat := 0
def PySem.W.Fast.tw5624184000494540911 : Nat := 0
def PySem.W.Fast.tw2619359715113152388 : Nat := 0
def PySem.W.Fast.tw15833115594216263685 : Nat := 0
def PySem.W.Fast.tw8495495680444382957 : Nat := 0
def PySem.W.Fast.tw10949105862416992407 : Nat := 0
def PySem.W.Fast.tw17460665381161875612 : Nat := 0
def PySem.W.Fast.tw3370422064106244577 : Nat := 0
def PySem.W.Fast.tw16565531825042848232 : Nat := 0
def PySem.W.Fast.tw14550163788867772449 : Nat := 0
def PySem.W.Fast.tw1549731189214933909 : Nat := 0
def PySem.W.Fast.tw4426674468990055215 : Nat := 0
def PySem.W.Fast.tw16586267294353744045 : Nat := 0
def PySem.W.Fast.tw18292521821147363545 : Nat := 0
def PySem.W.Fast.tw13287588987689897790 : Nat := 0
def PySem.W.Fast.tw168188591164201472 : Nat := 0
def PySem.W.Fast.tw10292948710537200446 : Nat := 0
def PySem.W.Fast.tw2913970603760580781 : Nat := 0
def PySem.W.Fast.tw4161329086853642710 : Nat := 0
def PySem.W.Fast.tw10594142407163286542 : Nat := 0
def PySem.W.Fast.tw1639532876652417758 : Nat := 0
def PySem.W.Fast.tw17625488418069622916 : Nat := 0
def PySem.W.Fast.tw17506198984477956920 : Nat := 0
def PySem.W.Fast.tw9333120338665499443 : Nat := 0
def PySem.W.Fast.tw1904918176201477813 : Nat := 0
def PySem.W.Fast.tw16515918428451942885 : Nat := 0
def PySem.W.Fast.tw1783697681027270044 : Nat := 0
def PySem.W.Fast.tw4406470076438515696 : Nat := 0
def PySem.W.Fast.tw11742147054435039336 : Nat := 0
def PySem.W.Fast.tw12255903988695549341 : Nat := 0
def PySem.W.Fast.tw17840146869026553203 : Nat := 0
def PySem.W.Fast.tw10581492061806463727 : Nat := 0
def PySem.W.Fast.tw5643305072774630123 : Nat := 0
def PySem.W.Fast.tw10761503192882264469 : Nat := 0
def PySem.W.Fast.tw872308801231403794 : Nat := 0
def PySem.W.Fast.tw11414692070032056645 : Nat := 0
def PySem.W.Fast.tw12282483629534128250 : Nat := 0
def PySem.W.Fast.tw11634874306703458854 : Nat := 0
def PySem.W.Fast.tw18200698758177486517 : Nat := 0
def PySem.W.Fast.tw841344863378889905 : Nat := 0
def PySem.W.Fast.tw4948306364895086154 : Nat := 0
def PySem.W.Fast.tw9318711826961750974 : Nat := 0
def PySem.W.Fast.tw121645019944627835 : Nat := 0
def PySem.W.Fast.tw13511508094121988765 : Nat := 0
def PySem.W.Fast.tw7505863516140223497 : Nat := 0
def PySem.W.Fast.tw4182310051791646372 : Nat := 0
def PySem.W.Fast.tw11676254942854605921 : Nat := 0
def PySem.W.Fast.tw12870820276052215208 : Nat := 0
def PySem.W.Fast.tw1321588095292620082 : Nat := 0
def PySem.W.Fast.tw11978607713134443948 : Nat := 0
def PySem.W.Fast.tw18236364254383120018 : Nat := 0
def PySem.W.Fast.tw7301118091013042045 : Nat := 0
def PySem.W.Fast.tw18144786289636353644 : Nat := 0
def PySem.W.Fast.tw4832026989840382542 : Nat := 0
def PySem.W.Fast.tw17759356956947480500 : Nat := 0
def PySem.W.Fast.tw16629309619385820438 : Nat := 0
def PySem.W.Fast.tw16751360210125303625 : Nat := 0
def PySem.W.Fast.tw1393041209991096348 : Nat := 0
def PySem.W.Fast.tw17713986839809178392 : Nat := 0
def PySem.W.Fast.tw16258777224633922391 : Nat := 0
def PySem.W.Fast.tw10746215352981858047 : Nat := 0
def PySem.W.Fast.tw12102486548724177192 : Nat := 0
def PySem.W.Fast.tw16049454556213005291 : Nat := 0
def PySem.W.Fast.tw7314076209032809786 : Nat := 0
def PySem.W.Fast.tw2663885700239161496 : Nat := 0
def PySem.W.Fast.tw1775458439371017112 : Nat := 0
def PySem.W.Fast.tw16107199916639854985 : Nat := 0
def PySem.W.Fast.tw5830758527164924937 : Nat := 0
def PySem.W.Fast.tw14515562339359557762 : Nat := 0
def PySem.W.Fast.tw18076061120303329512 : Nat := 0
def PySem.W.Fast.tw16542225843504190695 : Nat := 0
def PySem.W.Fast.tw1538232934199444772 : Nat := 0
def PySem.W.Fast.tw4186411278968542602 : Nat := 0
def PySem.W.Fast.tw11762384789866538608 : Nat := 0
def PySem.W.Fast.tw5878550901512445197 : Nat := 0
def PySem.W.Fast.tw3649703439255156388 : Nat := 0
def PySem.W.Fast.tw13576305661839619662 : Nat := 0
def PySem.W.Fast.tw12826520446181918392 : Nat := 0
def PySem.W.Fast.tw16187792802545573191 : Nat := 0
def PySem.W.Fast.tw12918387843611626226 : Nat := 0
def PySem.W.Fast.tw11461375506967844837 : Nat := 0
def PySem.W.Fast.tw18134270603700991901 : Nat := 0
def PySem.W.Fast.tw4794640606439736195 : Nat := 0
def PySem.W.Fast.tw13163133671749667791 : Nat := 0
def PySem.W.Fast.tw14836532288220042778 : Nat := 0
def PySem.W.Fast.tw10524341383362883066 : Nat := 0
def PySem.W.Fast.tw10546876343309704578 : Nat := 0
def PySem.W.Fast.tw13518682626600186545 : Nat := 0
def PySem.W.Fast.tw5438019871318631060 : Nat := 0
def PySem.W.Fast.tw11968234918862146536 : Nat := 0
def PySem.W.Fast.tw10868520414304870597 : Nat := 0
def PySem.W.Fast.tw13998966219018497739 : Nat := 0
def PySem.W.Fast.tw462274369647908827 : Nat := 0
def PySem.W.Fast.tw8284079100509547957 : Nat := 0
def PySem.W.Fast.tw14613692719907369983 : Nat := 0
def PySem.W.Fast.tw11236303726184966825 : Nat := 0
def PySem.W.Fast.tw1457261017481022526 : Nat := 0
def PySem.W.Fast.tw2752303429144143988 : Nat := 0
def PySem.W.Fast.tw941726699291784383 : Nat := 0
def PySem.W.Fast.tw11329274922740515491 : Nat := 0
def PySem.W.Fast.tw14731872581001409298 : Nat := 0
def PySem.W.Fast.tw9920929267859742268 : Nat := 0
def PySem.W.Fast.tw10730258064490508931 : Nat := 0
def PySem.W.Fast.tw10048844500118923776 : Nat := 0
def PySem.W.Fast.tw11438902145176968683 : Nat := 0
def PySem.W.Fast.tw13402619670355954394 : Nat := 0
def PySem.W.Fast.tw5300425108141875651 : Nat := 0
def PySem.W.Fast.tw18196824099062099089 : Nat := 0
def PySem.W.Fast.tw15955603299395410466 : Nat := 0
def PySem.W.Fast.tw7453330472073259909 : Nat := 0
def PySem.W.Fast.tw3785634814384692445 : Nat := 0
def PySem.W.Fast.tw1433052669987694085 : Nat := 0
def PySem.W.Fast.tw2703701393402483043 : Nat := 0
def PySem.W.Fast.tw17780478876374706610 : Nat := 0
def PySem.W.Fast.tw14915502936852512470 : Nat := 0
def PySem.W.Fast.tw5620106343477132734 : Nat := 0
def PySem.W.Fast.tw7809416247161114836 : Nat := 0
def PySem.W.Fast.tw269116088220132184 : Nat := 0
def PySem.W.Fast.tw8616212969714331996 : Nat := 0
def PySem.W.Fast.tw7635113385502685262 : Nat := 0
def PySem.W.Fast.tw4613902927650989181 : Nat := 0
def PySem.W.Fast.tw836549821320597354 : Nat := 0
def PySem.W.Fast.tw9447398320540872898 : Nat := 0
def PySem.W.Fast.tw14044717343440367944 : Nat := 0
def PySem.W.Fast.tw2585647769001452952 : Nat := 0
def PySem.W.Fast.tw10670485154825910420 : Nat := 0
def PySem.W.Fast.tw6665981300420692058 : Nat := 0
def PySem.W.Fast.tw7948718582777379013 : Nat := 0
def PySem.W.Fast.tw544829422511864849 : Nat := 0
def PySem.W.Fast.tw11485791008406658097 : Nat := 0
def PySem.W.Fast.tw12241857692044765487 : Nat := 0
def PySem.W.Fast.tw17778220551978861128 : Nat := 0
def PySem.W.Fast.tw12893298060502819700 : Nat := 0
def PySem.W.Fast.tw242560885648056625 : Nat := 0
def PySem.W.Fast.tw5932250251543736251 : Nat := 0
def PySem.W.Fast.tw9881515468444729739 : Nat := 0
def PySem.W.Fast.tw9365385834794366737 : Nat := 0
def PySem.W.Fast.tw4556271777357617477 : Nat := 0
def PySem.W.Fast.tw2203747999492478557 : Nat := 0
def PySem.W.Fast.tw15257606430904729257 : Nat := 0
def PySem.W.Fast.tw14955645609101779249 : Nat := 0
def PySem.W.Fast.tw8704446654560756003 : Nat := 0
def PySem.W.Fast.tw18158528377701020707 : Nat := 0
def PySem.W.Fast.tw9855409496859229117 : Nat := 0
def PySem.W.Fast.tw281293446489276281 : Nat := 0
def PySem.W.Fast.tw5263655484500108364 : Nat := 0
def PySem.W.Fast.tw6180010079804797721 : Nat := 0
def PySem.W.Fast.tw3348428728356237891 : Nat := 0
def PySem.W.Fast.tw11008023154670878989 : Nat := 0
def PySem.W.Fast.tw10403280451574204342 : Nat := 0
def PySem.W.Fast.tw6595632468108237642 : Nat := 0
def PySem.W.Fast.tw5151450475475001836 : Nat := 0
def PySem.W.Fast.tw10666168140677978977 : Nat := 0
def PySem.W.Fast.tw7281014474415285245 : Nat := 0
def PySem.W.Fast.tw3620225102863689229 : Nat := 0
def PySem.W.Fast.tw10220863928170333332 : Nat := 0
def PySem.W.Fast.tw3698180904958304671 : Nat := 0
def PySem.W.Fast.tw14814578598985263033 : Nat := 0
def PySem.W.Fast.tw9118684488722033191 : Nat := 0
def PySem.W.Fast.tw8781978427304812702 : Nat := 0
def PySem.W.Fast.tw5242519315530475582 : Nat := 0
def PySem.W.Fast.tw15963421749464029838 : Nat := 0
def PySem.W.Fast.tw18096862121197881936 : Nat := 0
def PySem.W.Fast.tw2316066368402107497 : Nat := 0
def PySem.W.Fast.tw4250350669828006739 : Nat := 0
def PySem.W.Fast.tw3241332412048095867 : Nat := 0
def PySem.W.Fast.tw3220551042768460364 : Nat := 0
def PySem.W.Fast.tw4461058913861808211 : Nat := 0
def PySem.W.Fast.tw7047442488683811735 : Nat := 0
def PySem.W.Fast.tw9097088277177670724 : Nat := 0
def PySem.W.Fast.tw13624752778874476206 : Nat := 0
def PySem.W.Fast.tw10528138884833919806 : Nat := 0
def PySem.W.Fast.tw8408727970031414534 : Nat := 0
def PySem.W.Fast.tw11512384086262166624 : Nat := 0
def PySem.W.Fast.tw10159927353298215006 : Nat := 0
def PySem.W.Fast.tw6379383261826858446 : Nat := 0
def PySem.W.Fast.tw1110486620711061458 : Nat := 0
def PySem.W.Fast.tw14720386470228099402 : Nat := 0
def PySem.W.Fast.tw409131038839400047 : Nat := 0
def PySem.W.Fast.tw14152687324837383862 : Nat := 0
def PySem.W.Fast.tw9547240310359602391 : Nat := 0
def PySem.W.Fast.tw9645360393522095584 : Nat := 0
def PySem.W.Fast.tw15206844958250575395 : Nat := 0
def PySem.W.Fast.tw3546453966762408604 : Nat := 0
def PySem.W.Fast.tw13844664438155751898 : Nat := 0
def PySem.W.Fast.tw7874059571456397085 : Nat := 0
def PySem.W.Fast.tw16655014662320434328 : Nat := 0
def PySem.W.Fast.tw13871454484195951384 : Nat := 0
def PySem.W.Fast.tw186506780633579285 : Nat := 0
def PySem.W.Fast.tw17178848257534622885 : Nat := 0
def PySem.W.Fast.tw13579895004791645455 : Nat := 0
def PySem.W.Fast.tw7152687004860229997 : Nat := 0
def PySem.W.Fast.tw2506695404257942961 : Nat := 0
def PySem.W.Fast.tw5617188391318229614 : Nat := 0
def PySem.W.Fast.tw1230650629442668921 : Nat := 0
def PySem.W.Fast.tw13762459349322821531 : Nat := 0
def PySem.W.Fast.tw13701394360602633978 : Nat := 0
def PySem.W.Fast.tw2027493687084843994 : Nat := 0
def PySem.W.Fast.tw10474319981047686175 : Nat := 0
def PySem.W.Fast.tw11656620227034052754 : Nat := 0
def PySem.W.Fast.tw6137281889637756657 : Nat := 0
def PySem.W.Fast.tw13739074793910681307 : Nat := 0
def PySem.W.Fast.tw2814412973496621232 : Nat := 0
def PySem.W.Fast.tw12269324979353353194 : Nat := 0
def PySem.W.Fast.tw1675295577119317655 : Nat := 0
def PySem.W.Fast.tw16767792559827711432 : Nat := 0
def PySem.W.Fast.tw12970648373619775171 : Nat := 0
def PySem.W.Fast.tw13727608484989052265 : Nat := 0
def PySem.W.Fast.tw13520192983136784520 : Nat := 0
def PySem.W.Fast.tw8326965956028319453 : Nat := 0
def PySem.W.Fast.tw8826702945514789926 : Nat := 0
def PySem.W.Fast.tw292635352847045127 : Nat := 0
def PySem.W.Fast.tw11990025663600064846 : Nat := 0
def PySem.W.Fast.tw1140082672189760032 : Nat := 0
def PySem.W.Fast.tw10571435594471238757 : Nat := 0
def PySem.W.Fast.tw916307455364868622 : Nat := 0
def PySem.W.Fast.tw16308825860324019463 : Nat := 0
def PySem.W.Fast.tw7540643553165156831 : Nat := 0
def PySem.W.Fast.tw5575154640488411357 : Nat := 0
def PySem.W.Fast.tw3661295670463879129 : Nat := 0
def PySem.W.Fast.tw9814550405538718913 : Nat := 0
def PySem.W.Fast.tw1983076560384992980 : Nat := 0
def PySem.W.Fast.tw9200417253221571933 : Nat := 0
def PySem.W.Fast.tw14625997314744366868 : Nat := 0
def PySem.W.Fast.tw1059321007771273920 : Nat := 0
def PySem.W.Fast.tw6296815770078207352 : Nat := 0
def PySem.W.Fast.tw10429360817837135773 : Nat := 0
def PySem.W.Fast.tw6746214878557874178 : Nat := 0
def PySem.W.Fast.tw4062935498566333957 : Nat := 0
def PySem.W.Fast.tw52862143211663135 : Nat := 0
def PySem.W.Fast.tw16690298154576060051 : Nat := 0
def PySem.W.Fast.tw17822835441594833492 : Nat := 0
def PySem.W.Fast.tw5707176221838545783 : Nat := 0
def PySem.W.Fast.tw18208996151660283732 : Nat := 0
def PySem.W.Fast.tw7653292874462342824 : Nat := 0
def PySem.W.Fast.tw11514581656823075132 : Nat := 0
def PySem.W.Fast.tw3090869371160526434 : Nat := 0
def PySem.W.Fast.tw4726103794632782604 : Nat := 0
def PySem.W.Fast.tw12842616783300525074 : Nat := 0
def PySem.W.Fast.tw16982743106254835662 : Nat := 0
def PySem.W.Fast.tw271122854686482087 : Nat := 0
def PySem.W.Fast.tw1193502676429805869 : Nat := 0
def PySem.W.Fast.tw11414655462659236314 : Nat := 0
def PySem.W.Fast.tw15522769574784853127 : Nat := 0
def PySem.W.Fast.tw10091823207641702777 : Nat := 0
def PySem.W.Fast.tw11093146189256846039 : Nat := 0
def PySem.W.Fast.tw696725209343094049 : Nat := 0
def PySem.W.Fast.tw14041588159499735605 : Nat := 0
def PySem.W.Fast.tw9029388264802206333 : Nat := 0
def PySem.W.Fast.tw16842067787787952541 : Nat := 0
def PySem.W.Fast.tw4699471655957169254 : Nat := 0
def PySem.W.Fast.tw12068631117129863161 : Nat := 0
def PySem.W.Fast.tw18297636152030879552 : Nat := 0
def PySem.W.Fast.tw14915917883782443713 : Nat := 0
def PySem.W.Fast.tw5874207748851883378 : Nat := 0
def PySem.W.Fast.tw7027869694929409041 : Nat := 0
def PySem.W.Fast.tw8289393615160352345 : Nat := 0
def PySem.W.Fast.tw1647059314170332175 : Nat := 0
def PySem.W.Fast.tw16486712804983687677 : Nat := 0
def PySem.W.Fast.tw15846531431432068135 : Nat := 0
def PySem.W.Fast.tw15744600279697776108 : Nat := 0
def PySem.W.Fast.tw15084648796653887536 : Nat := 0
def PySem.W.Fast.tw1704147109660361936 : Nat := 0
def PySem.W.Fast.tw15643386568678908212 : Nat := 0
def PySem.W.Fast.tw2311321733757164627 : Nat := 0
def PySem.W.Fast.tw10138814230070057236 : Nat := 0
def PySem.W.Fast.tw18324990673771324160 : Nat := 0
def PySem.W.Fast.tw9241236740104692239 : Nat := 0
def PySem.W.Fast.tw8868146174775670929 : Nat := 0
def PySem.W.Fast.tw9722991656109276448 : Nat := 0
def PySem.W.Fast.tw7388077673277568416 : Nat := 0
def PySem.W.Fast.tw5868265529945294869 : Nat := 0
def PySem.W.Fast.tw711903184991597175 : Nat := 0
def PySem.W.Fast.tw10266576286882576255 : Nat := 0
def PySem.W.Fast.tw5090148012255511394 : Nat := 0
def PySem.W.Fast.tw9643326268666699843 : Nat := 0
def PySem.W.Fast.tw17295020751783609846 : Nat := 0
def PySem.W.Fast.tw7441120399014843314 : Nat := 0
def PySem.W.Fast.tw5242431728961715201 : Nat := 0
def PySem.W.Fast.tw11094417064559596237 : Nat := 0
def PySem.W.Fast.tw1684030950223326435 : Nat := 0
def PySem.W.Fast.tw11454850422470830832 : Nat := 0
def PySem.W.Fast.tw17880561444091320789 : Nat := 0
def PySem.W.Fast.tw15890970522446633356 : Nat := 0
def PySem.W.Fast.tw18156180275860546700 : Nat := 0
def PySem.W.Fast.tw9881120597727180760 : Nat := 0
def PySem.W.Fast.tw12624216634508889226 : Nat := 0
def PySem.W.Fast.tw13612940797624677039 : Nat := 0
def PySem.W.Fast.tw16491519617501727445 : Nat := 0
def PySem.W.Fast.tw1668118170304910976 : Nat := 0
def PySem.W.Fast.tw8206723164858529745 : Nat := 0
def PySem.W.Fast.tw10696048868753937227 : Nat := 0
def PySem.W.Fast.tw2714909945907065283 : Nat := 0
def PySem.W.Fast.tw15011874150337792518 : Nat := 0
def PySem.W.Fast.tw9287104460560628082 : Nat := 0
def PySem.W.Fast.tw2979512393870409361 : Nat := 0
def PySem.W.Fast.tw8704131950794531765 : Nat := 0
def PySem.W.Fast.tw547935948996107700 : Nat := 0
def PySem.W.Fast.tw8672051778600706872 : Nat := 0
def PySem.W.Fast.tw1974348999635924373 : Nat := 0
def PySem.W.Fast.tw2388630031287535963 : Nat := 0
def PySem.W.Fast.tw17140484458859838268 : Nat := 0
def PySem.W.Fast.tw11392836866608982870 : Nat := 0
def PySem.W.Fast.tw5378826479438463580 : Nat := 0
def PySem.W.Fast.tw14825262352424221102 : Nat := 0
def PySem.W.Fast.tw15901285504819189961 : Nat := 0
def PySem.W.Fast.tw8954157219318945279 : Nat := 0
def PySem.W.Fast.tw17336155407943284533 : Nat := 0
def PySem.W.Fast.tw13544395364236909862 : Nat := 0
def PySem.W.Fast.tw14537918428884283542 : Nat := 0
def PySem.W.Fast.tw11840539041152746034 : Nat := 0
def PySem.W.Fast.tw5980942729671254701 : Nat := 0
def PySem.W.Fast.tw2908058977238259353 : Nat := 0
def PySem.W.Fast.tw14306748412196659871 : Nat := 0
def PySem.W.Fast.tw12817934435616390462 : Nat := 0
def PySem.W.Fast.tw2877904745721299743 : Nat := 0
def PySem.W.Fast.tw241555488200627641 : Nat := 0
def PySem.W.Fast.tw3098641794025766096 : Nat := 0
def PySem.W.Fast.tw16240068396136397761 : Nat := 0
def PySem.W.Fast.tw1991892713714186231 : Nat := 0
def PySem.W.Fast.tw10197621955340641623 : Nat := 0
def PySem.W.Fast.tw10946334818121646669 : Nat := 0
def PySem.W.Fast.tw3842856937203887310 : Nat := 0
def PySem.W.Fast.tw13433012555067782524 : Nat := 0
def PySem.W.Fast.tw5851437635329816657 : Nat := 0
def PySem.W.Fast.tw5767058282726724031 : Nat := 0
def PySem.W.Fast.tw5061169811898828136 : Nat := 0
def PySem.W.Fast.tw3693974473426514483 : Nat := 0
def PySem.W.Fast.tw4311078024445228340 : Nat := 0
def PySem.W.Fast.tw5812648929793216222 : Nat := 0
def PySem.W.Fast.tw9039534457347574661 : Nat := 0
def PySem.W.Fast.tw8645999456886772988 : Nat := 0
def PySem.W.Fast.tw6637762049258471120 : Nat := 0
def PySem.W.Fast.tw4122488723455501491 : Nat := 0
def PySem.W.Fast.tw16245895719073783063 : Nat := 0
def PySem.W.Fast.tw7437239655592208434 : Nat := 0
def PySem.W.Fast.tw710419540893479358 : Nat := 0
def PySem.W.Fast.tw1293753576873766718 : Nat := 0
def PySem.W.Fast.tw8650472815761818792 : Nat := 0
def PySem.W.Fast.tw8445032717205717526 : Nat := 0
def PySem.W.Fast.tw6729959249228047438 : Nat := 0
def PySem.W.Fast.tw653593593918508754 : Nat := 0
def PySem.W.Fast.tw14247048743245331435 : Nat := 0
def PySem.W.Fast.tw667011195758796088 : Nat := 0
def PySem.W.Fast.tw1920179310281673139 : Nat := 0
def PySem.W.Fast.tw9239322121220833849 : Nat := 0
def PySem.W.Fast.tw3403740795847660721 : Nat := 0
def PySem.W.Fast.tw211048635860010805 : Nat := 0
def PySem.W.Fast.tw12902385455548546524 : Nat := 0
def PySem.W.Fast.tw17629595965606782385 : Nat := 0
def PySem.W.Fast.tw4031098291620913793 : Nat := 0
def PySem.W.Fast.tw12023886366990743032 : Nat := 0
def PySem.W.Fast.tw1211047181241288818 : Nat := 0
def PySem.W.Fast.tw737117897695895784 : Nat := 0
def PySem.W.Fast.tw10294439213446626561 : Nat := 0
def PySem.W.Fast.tw3096861078192846129 : Nat := 0
def PySem.W.Fast.tw14912217854978945469 : Nat := 0
def PySem.W.Fast.tw8849842269111151173 : Nat := 0
def PySem.W.Fast.tw17295227688944790494 : Nat := 0
def PySem.W.Fast.tw17094954129334522196 : Nat := 0
def PySem.W.Fast.tw5896067007392713625 : Nat := 0
def PySem.W.Fast.tw6766011005339569876 : Nat := 0
def PySem.W.Fast.tw18341554465761038291 : Nat := 0
def PySem.W.Fast.tw17712761620065723081 : Nat := 0
def PySem.W.Fast.tw17801614328443768904 : Nat := 0
def PySem.W.Fast.tw8277068902271253387 : Nat := 0
def PySem.W.Fast.tw12441098482856567996 : Nat := 0
def PySem.W.Fast.tw2888072865333152360 : Nat := 0
def PySem.W.Fast.tw13936070051326919937 : Nat := 0
def PySem.W.Fast.tw13459114773150428489 : Nat := 0
def PySem.W.Fast.tw927896229487122225 : Nat := 0
def PySem.W.Fast.tw17933870248802644977 : Nat := 0
def PySem.W.Fast.tw13772123122137961731 : Nat := 0
def PySem.W.Fast.tw15387073700504311456 : Nat := 0
def PySem.W.Fast.tw15399478427695836439 : Nat := 0
def PySem.W.Fast.tw4692254602270235600 : Nat := 0
def PySem.W.Fast.tw14972683707239853032 : Nat := 0
def PySem.W.Fast.tw9333013732970024793 : Nat := 0
def PySem.W.Fast.tw8396414850936072722 : Nat := 0
def PySem.W.Fast.tw4013547769015060743 : Nat := 0
def PySem.W.Fast.tw8266282439958044153 : Nat := 0
def PySem.W.Fast.tw8051027324397051406 : Nat := 0
def PySem.W.Fast.tw12676202230314007690 : Nat := 0
def PySem.W.Fast.tw5957970650456395851 : Nat := 0
def PySem.W.Fast.tw1372600611679469743 : Nat := 0
def PySem.W.Fast.tw14739219162835989122 : Nat := 0
def PySem.W.Fast.tw10686539235075414835 : Nat := 0
def PySem.W.Fast.tw8988012415242353814 : Nat := 0
def PySem.W.Fast.tw11197327962779465129 : Nat := 0
def PySem.W.Fast.tw8475934102918358179 : Nat := 0
def PySem.W.Fast.tw4999537881846480733 : Nat := 0
def PySem.W.Fast.tw18234423088243514452 : Nat := 0
def PySem.W.Fast.tw8763055458155633186 : Nat := 0
def PySem.W.Fast.tw10399428089167051674 : Nat := 0
def PySem.W.Fast.tw3781175549692072455 : Nat := 0
def PySem.W.Fast.tw3823631036421676880 : Nat := 0
def PySem.W.Fast.tw7350964537003576123 : Nat := 0
def PySem.W.Fast.tw1703563937674447309 : Nat := 0
def PySem.W.Fast.tw3988945263440470566 : Nat := 0
def PySem.W.Fast.tw7972861087673777180 : Nat := 0
def PySem.W.Fast.tw7715343046923400836 : Nat := 0
def PySem.W.Fast.tw9341860139948657384 : Nat := 0
def PySem.W.Fast.tw12944498154406121464 : Nat := 0
def PySem.W.Fast.tw2260788242311886172 : Nat := 0
def PySem.W.Fast.tw13059601919014124479 : Nat := 0
def PySem.W.Fast.tw3608818409939045634 : Nat := 0
def PySem.W.Fast.tw9939017820682813198 : Nat := 0
def PySem.W.Fast.tw1978382402682224807 : Nat := 0
def PySem.W.Fast.tw16912577202155197804 : Nat := 0
def PySem.W.Fast.tw14907506635533700907 : Nat := 0
def PySem.W.Fast.tw12599584452050189409 : Nat := 0
def PySem.W.Fast.tw1443390044331423414 : Nat := 0
def PySem.W.Fast.tw15478517280782414036 : Nat := 0
def PySem.W.Fast.tw4030487988951099320 : Nat := 0
def PySem.W.Fast.tw2402637093733796428 : Nat := 0
def PySem.W.Fast.tw13946568242141691875 : Nat := 0
def PySem.W.Fast.tw1236000272528382121 : Nat := 0
def PySem.W.Fast.tw16517260397220959843 : Nat := 0
def PySem.W.Fast.tw11459258410870625636 : Nat := 0
def PySem.W.Fast.tw2015414836332984023 : Nat := 0
def PySem.W.Fast.tw4533151282455585926 : Nat := 0
def PySem.W.Fast.tw11831596777447516325 : Nat := 0
def PySem.W.Fast.tw15358999295442376365 : Nat := 0
def PySem.W.Fast.tw18356197671960250225 : Nat := 0
def PySem.W.Fast.tw16493493511739086291 : Nat := 0
def PySem.W.Fast.tw11833737991024984661 : Nat := 0
def PySem.W.Fast.tw5072569193582303243 : Nat := 0
def PySem.W.Fast.tw9025846123136909666 : Nat := 0
def PySem.W.Fast.tw16530832945286471785 : Nat := 0
def PySem.W.Fast.tw1449131707115353079 : Nat := 0
def PySem.W.Fast.tw17378433603657050157 : Nat := 0
def PySem.W.Fast.tw13482461087288977879 : Nat := 0
def PySem.W.Fast.tw3289968672144959350 : Nat := 0
def PySem.W.Fast.tw9702957127408460624 : Nat := 0
def PySem.W.Fast.tw5393178844546745282 : Nat := 0
def PySem.W.Fast.tw6614036967846574198 : Nat := 0
def PySem.W.Fast.tw12088381886367217690 : Nat := 0
def PySem.W.Fast.tw11806113674148216698 : Nat := 0
def PySem.W.Fast.tw12192044742888731545 : Nat := 0
def PySem.W.Fast.tw13717177655889997271 : Nat := 0
def PySem.W.Fast.tw10191322213607184135 : Nat := 0
def PySem.W.Fast.tw17095367412190045265 : Nat := 0
def PySem.W.Fast.tw5313269428242617697 : Nat := 0
def PySem.W.Fast.tw329856717021311857 : Nat := 0
def PySem.W.Fast.tw5726417198720546221 : Nat := 0
def PySem.W.Fast.tw3724276730127558819 : Nat := 0
def PySem.W.Fast.tw1855070102623912933 : Nat := 0
def PySem.W.Fast.tw24566745885138272 : Nat := 0
def PySem.W.Fast.tw8830109896715210485 : Nat := 0
def PySem.W.Fast.tw10744829461171225273 : Nat := 0
def PySem.W.Fast.tw3818170748722546137 : Nat := 0
def PySem.W.Fast.tw1047455911882889114 : Nat := 0
def PySem.W.Fast.tw9381256290017251215 : Nat := 0
def PySem.W.Fast.tw126785040454521713 : Nat := 0
def PySem.W.Fast.tw9202710428764626513 : Nat := 0
def PySem.W.Fast.tw5968030228056816528 : Nat := 0
def PySem.W.Fast.tw13219217874259848246 : Nat := 0
def PySem.W.Fast.tw15478570714414112332 : Nat := 0
def PySem.W.Fast.tw16490776775298115759 : Nat := 0
def PySem.W.Fast.tw12562105381958494545 : Nat := 0
def PySem.W.Fast.tw13065883485870376409 : Nat := 0
def PySem.W.Fast.tw3126962022464622166 : Nat := 0
def PySem.W.Fast.tw13370427367846912081 : Nat := 0
def PySem.W.Fast.tw15270079668208747258 : Nat := 0
def PySem.W.Fast.tw5335155049370256583 : Nat := 0
def PySem.W.Fast.tw16578500921918727879 : Nat := 0
def PySem.W.Fast.tw10250397770712381463 : Nat := 0
def PySem.W.Fast.tw6605892782463447364 : Nat := 0
def PySem.W.Fast.tw2567656990272861488 : Nat := 0
def PySem.W.Fast.tw8115505859410938784 : Nat := 0
def PySem.W.Fast.tw7884965084629298083 : Nat := 0
def PySem.W.Fast.tw17030914371747129020 : Nat := 0
def PySem.W.Fast.tw14592119203560776360 : Nat := 0
def PySem.W.Fast.tw3507355622730319990 : Nat := 0
def PySem.W.Fast.tw514435142521934690 : Nat := 0
def PySem.W.Fast.tw15818380475675645032 : Nat := 0
def PySem.W.Fast.tw16519042870353332847 : Nat := 0
def PySem.W.Fast.tw17407429214553935514 : Nat := 0
def PySem.W.Fast.tw12910202033461134916 : Nat := 0
def PySem.W.Fast.tw12140459044100393193 : Nat := 0
def PySem.W.Fast.tw12700975495665917044 : Nat := 0
def PySem.W.Fast.tw11759144198931540410 : Nat := 0
def PySem.W.Fast.tw8899988899785507228 : Nat := 0
def PySem.W.Fast.tw5238964482888952506 : Nat := 0
def PySem.W.Fast.tw46513291466561436 : Nat := 0
def PySem.W.Fast.tw6545992713463247948 : Nat := 0
def PySem.W.Fast.tw8560703648910875872 : Nat := 0
def PySem.W.Fast.tw5132119313250174669 : Nat := 0
def PySem.W.Fast.tw1235494638270626128 : Nat := 0
def PySem.W.Fast.tw3306109694693986210 : Nat := 0
def PySem.W.Fast.tw5224378292965496353 : Nat := 0
set_option maxRecDepth 100000 in
set_option maxHeartbeats 0 in
theorem PySem.Challenge.cw_leastfare_s01_answers_holds : PySem.Challenge.rw_leastfare_s01_answers.Holds := by
  w_on; k_headS; (case hw => exact ⟨[.list [.int 0, .int 0]], by decide +kernel, by decide +kernel⟩)
  k_fillS
  refine L2.walk_specK (r := PySem.Challenge.rw_leastfare_s01_answers) (k := 8) (CX := L2.CX0) (ps := ["calls"]) (sp := LF.spAnswers) (by decide +kernel) rfl rfl ⟨rfl, by decide, by decide⟩ (fun w h Y => PySem.W.kIn_of Y) ?F ?S (fun _ _ _ _ z => z)
  case F =>
    intro w mg fa h Y KX G hmg
    refine' LF.st_class "Leg" LF.nLeg KX G ?aC ?pg ?hd ?po ?sa ?mk ?a1 ?i1 ?kc ?no ?_
    (case aC => k_is); (case pg => k_is); (case hd => k_is); (case po => k_is); (case sa => k_is); (case mk => k_is); (case a1 => k_is); (case i1 => k_is); (case kc => k_is)
    (case no => exact ⟨by k_is, by k_is, by k_is, by k_is, trivial⟩)
    intro TLeg
    refine' LF.st_me _ "__init__" "Leg.__init__" LF.sLegI TLeg.mki.init TLeg.mki.fn ?l ?c ?kp ?_
    (case l => k_is); (case c => k_is); (case kp => k_is)
    intro dILeg FILeg mILeg
    refine' LF.st_class "Fare" LF.nFare KX G ?aC ?pg ?hd ?po ?sa ?mk ?a1 ?i1 ?kc ?no ?_
    (case aC => k_is); (case pg => k_is); (case hd => k_is); (case po => k_is); (case sa => k_is); (case mk => k_is); (case a1 => k_is); (case i1 => k_is); (case kc => k_is)
    (case no => exact ⟨by k_is, by k_is, by k_is, by k_is, by k_is, by k_is, by k_is, by k_is, by k_is, trivial⟩)
    intro TFare
    refine' LF.st_me _ "__init__" "Fare.__init__" LF.sFareI TFare.mki.init TFare.mki.fn ?l ?c ?kp ?_
    (case l => k_is); (case c => k_is); (case kp => k_is)
    intro dIFare FIFare mIFare
    refine' LF.st_class "Card" LF.nCard KX G ?aC ?pg ?hd ?po ?sa ?mk ?a1 ?i1 ?kc ?no ?_
    (case aC => k_is); (case pg => k_is); (case hd => k_is); (case po => k_is); (case sa => k_is); (case mk => k_is); (case a1 => k_is); (case i1 => k_is); (case kc => k_is)
    (case no => exact ⟨by k_is, by k_is, trivial⟩)
    intro TCard
    refine' LF.st_me _ "__init__" "Card.__init__" LF.sCardI TCard.mki.init TCard.mki.fn ?l ?c ?kp ?_
    (case l => k_is); (case c => k_is); (case kp => k_is)
    intro dICard FICard mICard
    refine' LF.st_class "Ticket" LF.nTicket KX G ?aC ?pg ?hd ?po ?sa ?mk ?a1 ?i1 ?kc ?no ?_
    (case aC => k_is); (case pg => k_is); (case hd => k_is); (case po => k_is); (case sa => k_is); (case mk => k_is); (case a1 => k_is); (case i1 => k_is); (case kc => k_is)
    (case no => exact ⟨by k_is, by k_is, by k_is, by k_is, by k_is, trivial⟩)
    intro TTicket
    refine' LF.st_me _ "__init__" "Ticket.__init__" LF.sTicketI TTicket.mki.init TTicket.mki.fn ?l ?c ?kp ?_
    (case l => k_is); (case c => k_is); (case kp => k_is)
    intro dITicket FITicket mITicket
    refine' LF.st_class "Stretch" LF.nStr KX G ?aC ?pg ?hd ?po ?sa ?mk ?a1 ?i1 ?kc ?no ?_
    (case aC => k_is); (case pg => k_is); (case hd => k_is); (case po => k_is); (case sa => k_is); (case mk => k_is); (case a1 => k_is); (case i1 => k_is); (case kc => k_is)
    (case no => exact ⟨by k_is, by k_is, by k_is, by k_is, by k_is, by k_is, by k_is, by k_is, trivial⟩)
    intro TStretch
    refine' LF.st_me _ "__init__" "Stretch.__init__" LF.sStrI TStretch.mki.init TStretch.mki.fn ?l ?c ?kp ?_
    (case l => k_is); (case c => k_is); (case kp => k_is)
    intro dIStretch FIStretch mIStretch
    refine' LF.st_class "Sale" LF.nSale KX G ?aC ?pg ?hd ?po ?sa ?mk ?a1 ?i1 ?kc ?no ?_
    (case aC => k_is); (case pg => k_is); (case hd => k_is); (case po => k_is); (case sa => k_is); (case mk => k_is); (case a1 => k_is); (case i1 => k_is); (case kc => k_is)
    (case no => exact ⟨by k_is, by k_is, by k_is, by k_is, trivial⟩)
    intro TSale
    refine' LF.st_me _ "__init__" "Sale.__init__" LF.sSaleI TSale.mki.init TSale.mki.fn ?l ?c ?kp ?_
    (case l => k_is); (case c => k_is); (case kp => k_is)
    intro dISale FISale mISale
    refine' LF.st_class "Office" LF.nOff KX G ?aC ?pg ?hd ?po ?sa ?mk ?a1 ?i1 ?kc ?no ?_
    (case aC => k_is); (case pg => k_is); (case hd => k_is); (case po => k_is); (case sa => k_is); (case mk => k_is); (case a1 => k_is); (case i1 => k_is); (case kc => k_is)
    (case no => exact ⟨by k_is, by k_is, by k_is, by k_is, by k_is, by k_is, by k_is, trivial⟩)
    intro TOffice
    refine' LF.st_me _ "__init__" "Office.__init__" LF.sOffI TOffice.mki.init TOffice.mki.fn ?l ?c ?kp ?_
    (case l => k_is); (case c => k_is); (case kp => k_is)
    intro dIOffice FIOffice mIOffice
    refine' LF.st_class "Reader" LF.nRd KX G ?aC ?pg ?hd ?po ?sa ?mk ?a1 ?i1 ?kc ?no ?_
    (case aC => k_is); (case pg => k_is); (case hd => k_is); (case po => k_is); (case sa => k_is); (case mk => k_is); (case a1 => k_is); (case i1 => k_is); (case kc => k_is)
    (case no => exact ⟨by k_is, by k_is, trivial⟩)
    intro TReader
    refine' LF.st_me _ "__init__" "Reader.__init__" LF.sRdI TReader.mki.init TReader.mki.fn ?l ?c ?kp ?_
    (case l => k_is); (case c => k_is); (case kp => k_is)
    intro dIReader FIReader mIReader
    refine' LF.st_mt TStretch "grow" "Stretch.grow" LF.sGrow ?a ?i ?l ?c ?kp ?_
    (case a => k_is); (case i => k_is); (case l => k_is); (case c => k_is); (case kp => k_is)
    intro d_grow F_grow m_grow
    refine' LF.st_mt TSale "legs_left" "Sale.legs_left" LF.sLeft ?a ?i ?l ?c ?kp ?_
    (case a => k_is); (case i => k_is); (case l => k_is); (case c => k_is); (case kp => k_is)
    intro d_legs_left F_legs_left m_legs_left
    refine' LF.st_mt TSale "next_leg" "Sale.next_leg" LF.sNextLeg ?a ?i ?l ?c ?kp ?_
    (case a => k_is); (case i => k_is); (case l => k_is); (case c => k_is); (case kp => k_is)
    intro d_next_leg F_next_leg m_next_leg
    refine' LF.st_mt TSale "next_ticket" "Sale.next_ticket" LF.sNextTick ?a ?i ?l ?c ?kp ?_
    (case a => k_is); (case i => k_is); (case l => k_is); (case c => k_is); (case kp => k_is)
    intro d_next_ticket F_next_ticket m_next_ticket
    refine' LF.st_mt TSale "is_touched" "Sale.is_touched" LF.sTouched ?a ?i ?l ?c ?kp ?_
    (case a => k_is); (case i => k_is); (case l => k_is); (case c => k_is); (case kp => k_is)
    intro d_is_touched F_is_touched m_is_touched
    refine' LF.st_mt TSale "may_give_back" "Sale.may_give_back" LF.sMayGive ?a ?i ?l ?c ?kp ?_
    (case a => k_is); (case i => k_is); (case l => k_is); (case c => k_is); (case kp => k_is)
    intro d_may_give_back F_may_give_back m_may_give_back
    refine' LF.st_mt TSale "tickets_to_give_back" "Sale.tickets_to_give_back" LF.sToGive ?a ?i ?l ?c ?kp ?_
    (case a => k_is); (case i => k_is); (case l => k_is); (case c => k_is); (case kp => k_is)
    intro d_tickets_to_give_back F_tickets_to_give_back m_tickets_to_give_back
    refine' LF.st_mt TSale "exchange" "Sale.exchange" LF.sExch ?a ?i ?l ?c ?kp ?_
    (case a => k_is); (case i => k_is); (case l => k_is); (case c => k_is); (case kp => k_is)
    intro d_exchange F_exchange m_exchange
    refine' LF.st_mt TOffice "reset" "Office.reset" LF.sReset ?a ?i ?l ?c ?kp ?_
    (case a => k_is); (case i => k_is); (case l => k_is); (case c => k_is); (case kp => k_is)
    intro d_reset F_reset m_reset
    refine' LF.st_mt TOffice "begin" "Office.begin" LF.sBegin ?a ?i ?l ?c ?kp ?_
    (case a => k_is); (case i => k_is); (case l => k_is); (case c => k_is); (case kp => k_is)
    intro d_begin F_begin m_begin
    refine' LF.st_mt TOffice "add_fare" "Office.add_fare" LF.sAddFare ?a ?i ?l ?c ?kp ?_
    (case a => k_is); (case i => k_is); (case l => k_is); (case c => k_is); (case kp => k_is)
    intro d_add_fare F_add_fare m_add_fare
    refine' LF.st_mt TOffice "has_fare" "Office.has_fare" LF.sHasFare ?a ?i ?l ?c ?kp ?_
    (case a => k_is); (case i => k_is); (case l => k_is); (case c => k_is); (case kp => k_is)
    intro d_has_fare F_has_fare m_has_fare
    refine' LF.st_mt TOffice "close_fare" "Office.close_fare" LF.sClose ?a ?i ?l ?c ?kp ?_
    (case a => k_is); (case i => k_is); (case l => k_is); (case c => k_is); (case kp => k_is)
    intro d_close_fare F_close_fare m_close_fare
    refine' LF.st_mt TOffice "set_price" "Office.set_price" LF.sSetPrice ?a ?i ?l ?c ?kp ?_
    (case a => k_is); (case i => k_is); (case l => k_is); (case c => k_is); (case kp => k_is)
    intro d_set_price F_set_price m_set_price
    refine' LF.st_mt TOffice "ask" "Office.ask" LF.sAsk ?a ?i ?l ?c ?kp ?_
    (case a => k_is); (case i => k_is); (case l => k_is); (case c => k_is); (case kp => k_is)
    intro d_ask F_ask m_ask
    refine' LF.st_mt TOffice "is_time" "Office.is_time" LF.sIsTime ?a ?i ?l ?c ?kp ?_
    (case a => k_is); (case i => k_is); (case l => k_is); (case c => k_is); (case kp => k_is)
    intro d_is_time F_is_time m_is_time
    refine' LF.st_mt TOffice "buy" "Office.buy" LF.sBuy ?a ?i ?l ?c ?kp ?_
    (case a => k_is); (case i => k_is); (case l => k_is); (case c => k_is); (case kp => k_is)
    intro d_buy F_buy m_buy
    refine' LF.st_mt TOffice "has_sale" "Office.has_sale" LF.sHasSale ?a ?i ?l ?c ?kp ?_
    (case a => k_is); (case i => k_is); (case l => k_is); (case c => k_is); (case kp => k_is)
    intro d_has_sale F_has_sale m_has_sale
    refine' LF.st_mt TOffice "list_tickets" "Office.list_tickets" LF.sList ?a ?i ?l ?c ?kp ?_
    (case a => k_is); (case i => k_is); (case l => k_is); (case c => k_is); (case kp => k_is)
    intro d_list_tickets F_list_tickets m_list_tickets
    refine' LF.st_mt TOffice "ride" "Office.ride" LF.sRide ?a ?i ?l ?c ?kp ?_
    (case a => k_is); (case i => k_is); (case l => k_is); (case c => k_is); (case kp => k_is)
    intro d_ride F_ride m_ride
    refine' LF.st_mt TOffice "give_back" "Office.give_back" LF.sGive ?a ?i ?l ?c ?kp ?_
    (case a => k_is); (case i => k_is); (case l => k_is); (case c => k_is); (case kp => k_is)
    intro d_give_back F_give_back m_give_back
    refine' LF.st_mt TOffice "change" "Office.change" LF.sChange ?a ?i ?l ?c ?kp ?_
    (case a => k_is); (case i => k_is); (case l => k_is); (case c => k_is); (case kp => k_is)
    intro d_change F_change m_change
    refine' LF.st_mt TOffice "books" "Office.books" LF.sBooks ?a ?i ?l ?c ?kp ?_
    (case a => k_is); (case i => k_is); (case l => k_is); (case c => k_is); (case kp => k_is)
    intro d_books F_books m_books
    refine' LF.st_mt TReader "at_end" "Reader.at_end" LF.sAtEnd ?a ?i ?l ?c ?kp ?_
    (case a => k_is); (case i => k_is); (case l => k_is); (case c => k_is); (case kp => k_is)
    intro d_at_end F_at_end m_at_end
    refine' LF.st_mt TReader "take" "Reader.take" LF.sTake ?a ?i ?l ?c ?kp ?_
    (case a => k_is); (case i => k_is); (case l => k_is); (case c => k_is); (case kp => k_is)
    intro d_take F_take m_take
    refine' LF.st_mt TReader "take_many" "Reader.take_many" LF.sMany ?a ?i ?l ?c ?kp ?_
    (case a => k_is); (case i => k_is); (case l => k_is); (case c => k_is); (case kp => k_is)
    intro d_take_many F_take_many m_take_many
    refine' LF.st_mt TReader "take_row" "Reader.take_row" LF.sRow ?a ?i ?l ?c ?kp ?_
    (case a => k_is); (case i => k_is); (case l => k_is); (case c => k_is); (case kp => k_is)
    intro d_take_row F_take_row m_take_row
    refine' LF.st_fn "legs_of" LF.sLegsOf KX G ?a ?l ?c ?kp ?_
    (case a => k_is); (case l => k_is); (case c => k_is); (case kp => k_is)
    intro d_legs_of F_legs_of g_legs_of
    refine' LF.st_fn "is_leg" LF.sIsLeg KX G ?a ?l ?c ?kp ?_
    (case a => k_is); (case l => k_is); (case c => k_is); (case kp => k_is)
    intro d_is_leg F_is_leg g_is_leg
    refine' LF.st_fn "is_journey" LF.sIsJ KX G ?a ?l ?c ?kp ?_
    (case a => k_is); (case l => k_is); (case c => k_is); (case kp => k_is)
    intro d_is_journey F_is_journey g_is_journey
    refine' LF.st_fn "covers" LF.sCov KX G ?a ?l ?c ?kp ?_
    (case a => k_is); (case l => k_is); (case c => k_is); (case kp => k_is)
    intro d_covers F_covers g_covers
    refine' LF.st_fn "ticket_cost" LF.sCost KX G ?a ?l ?c ?kp ?_
    (case a => k_is); (case l => k_is); (case c => k_is); (case kp => k_is)
    intro d_ticket_cost F_ticket_cost g_ticket_cost
    refine' LF.st_fn "offers_of" LF.sOffs KX G ?a ?l ?c ?kp ?_
    (case a => k_is); (case l => k_is); (case c => k_is); (case kp => k_is)
    intro d_offers_of F_offers_of g_offers_of
    refine' LF.st_fn "best_offer" LF.sBOff KX G ?a ?l ?c ?kp ?_
    (case a => k_is); (case l => k_is); (case c => k_is); (case kp => k_is)
    intro d_best_offer F_best_offer g_best_offer
    refine' LF.st_fn "best_plan" LF.sBPlan KX G ?a ?l ?c ?kp ?_
    (case a => k_is); (case l => k_is); (case c => k_is); (case kp => k_is)
    intro d_best_plan F_best_plan g_best_plan
    refine' LF.st_fn "tickets_of" LF.sTicks KX G ?a ?l ?c ?kp ?_
    (case a => k_is); (case l => k_is); (case c => k_is); (case kp => k_is)
    intro d_tickets_of F_tickets_of g_tickets_of
    refine' LF.st_fn "cheapest" LF.sCheap KX G ?a ?l ?c ?kp ?_
    (case a => k_is); (case l => k_is); (case c => k_is); (case kp => k_is)
    intro d_cheapest F_cheapest g_cheapest
    refine' LF.st_fn "total_paid" LF.sTotal KX G ?a ?l ?c ?kp ?_
    (case a => k_is); (case l => k_is); (case c => k_is); (case kp => k_is)
    intro d_total_paid F_total_paid g_total_paid
    refine' LF.st_fn "is_fare" LF.sIsFare KX G ?a ?l ?c ?kp ?_
    (case a => k_is); (case l => k_is); (case c => k_is); (case kp => k_is)
    intro d_is_fare F_is_fare g_is_fare
    refine' LF.st_fn "is_card" LF.sIsCard KX G ?a ?l ?c ?kp ?_
    (case a => k_is); (case l => k_is); (case c => k_is); (case kp => k_is)
    intro d_is_card F_is_card g_is_card
    refine' LF.st_fn "answer_price" LF.sAPrice KX G ?a ?l ?c ?kp ?_
    (case a => k_is); (case l => k_is); (case c => k_is); (case kp => k_is)
    intro d_answer_price F_answer_price g_answer_price
    refine' LF.st_fn "answer_ask" LF.sAAsk KX G ?a ?l ?c ?kp ?_
    (case a => k_is); (case l => k_is); (case c => k_is); (case kp => k_is)
    intro d_answer_ask F_answer_ask g_answer_ask
    refine' LF.st_fn "answer_buy" LF.sABuy KX G ?a ?l ?c ?kp ?_
    (case a => k_is); (case l => k_is); (case c => k_is); (case kp => k_is)
    intro d_answer_buy F_answer_buy g_answer_buy
    refine' LF.st_fn "answer_ride" LF.sARide KX G ?a ?l ?c ?kp ?_
    (case a => k_is); (case l => k_is); (case c => k_is); (case kp => k_is)
    intro d_answer_ride F_answer_ride g_answer_ride
    refine' LF.st_fn "answer_back" LF.sABack KX G ?a ?l ?c ?kp ?_
    (case a => k_is); (case l => k_is); (case c => k_is); (case kp => k_is)
    intro d_answer_back F_answer_back g_answer_back
    refine' LF.st_fn "answer_change" LF.sAChange KX G ?a ?l ?c ?kp ?_
    (case a => k_is); (case l => k_is); (case c => k_is); (case kp => k_is)
    intro d_answer_change F_answer_change g_answer_change
    refine' LF.st_fn "answer_call" LF.sACall KX G ?a ?l ?c ?kp ?_
    (case a => k_is); (case l => k_is); (case c => k_is); (case kp => k_is)
    intro d_answer_call F_answer_call g_answer_call
    refine' LF.st_fn "answers" LF.sAnswers KX G ?a ?l ?c ?kp ?_
    (case a => k_is); (case l => k_is); (case c => k_is); (case kp => k_is)
    intro d_answers F_answers g_answers
    refine' LF.st_int "LAST_STOP" (254) KX G ?a ?_; (case a => k_is); intro c_LAST_STOP
    refine' LF.st_int "ANY_STOP" (255) KX G ?a ?_; (case a => k_is); intro c_ANY_STOP
    refine' LF.st_int "MOST_LEGS" (16) KX G ?a ?_; (case a => k_is); intro c_MOST_LEGS
    refine' LF.st_int "DAY" (1440) KX G ?a ?_; (case a => k_is); intro c_DAY
    refine' LF.st_int "MINUTES_END" (16777216) KX G ?a ?_; (case a => k_is); intro c_MINUTES_END
    refine' LF.st_int "LONGEST_WAIT" (60) KX G ?a ?_; (case a => k_is); intro c_LONGEST_WAIT
    refine' LF.st_int "MOST_MONEY" (1000000) KX G ?a ?_; (case a => k_is); intro c_MOST_MONEY
    refine' LF.st_int "MOST_FARES" (64) KX G ?a ?_; (case a => k_is); intro c_MOST_FARES
    refine' LF.st_int "MOST_SALES" (64) KX G ?a ?_; (case a => k_is); intro c_MOST_SALES
    refine' LF.st_int "MOST_BREAKS" (16) KX G ?a ?_; (case a => k_is); intro c_MOST_BREAKS
    refine' LF.st_int "MOST_OFF" (100) KX G ?a ?_; (case a => k_is); intro c_MOST_OFF
    refine' LF.st_int "GIVEN_BACK" (-1) KX G ?a ?_; (case a => k_is); intro c_GIVEN_BACK
    refine' LF.st_int "MISSING" (-2) KX G ?a ?_; (case a => k_is); intro c_MISSING
    refine' LF.st_int "NOW_WRONG" (-4) KX G ?a ?_; (case a => k_is); intro c_NOW_WRONG
    refine' LF.st_int "ALL_RIDDEN" (-11) KX G ?a ?_; (case a => k_is); intro c_ALL_RIDDEN
    refine' LF.st_int "GONE" (-16) KX G ?a ?_; (case a => k_is); intro c_GONE
    refine' LF.st_int "TOUCHED" (-17) KX G ?a ?_; (case a => k_is); intro c_TOUCHED
    refine' LF.st_int "WRONG" (-22) KX G ?a ?_; (case a => k_is); intro c_WRONG
    refine' LF.st_int "FULL" (-28) KX G ?a ?_; (case a => k_is); intro c_FULL
    refine' LF.st_int "NO_TICKETS" (-33) KX G ?a ?_; (case a => k_is); intro c_NO_TICKETS
    refine' LF.st_int "BEGIN" (0) KX G ?a ?_; (case a => k_is); intro c_BEGIN
    refine' LF.st_int "FARE" (1) KX G ?a ?_; (case a => k_is); intro c_FARE
    refine' LF.st_int "CLOSE" (2) KX G ?a ?_; (case a => k_is); intro c_CLOSE
    refine' LF.st_int "PRICE" (3) KX G ?a ?_; (case a => k_is); intro c_PRICE
    refine' LF.st_int "ASK" (4) KX G ?a ?_; (case a => k_is); intro c_ASK
    refine' LF.st_int "BUY" (5) KX G ?a ?_; (case a => k_is); intro c_BUY
    refine' LF.st_int "TICKETS" (6) KX G ?a ?_; (case a => k_is); intro c_TICKETS
    refine' LF.st_int "RIDE" (7) KX G ?a ?_; (case a => k_is); intro c_RIDE
    refine' LF.st_int "BACK" (8) KX G ?a ?_; (case a => k_is); intro c_BACK
    refine' LF.st_int "CHANGE" (9) KX G ?a ?_; (case a => k_is); intro c_CHANGE
    refine' LF.st_int "BOOKS" (10) KX G ?a ?_; (case a => k_is); intro c_BOOKS
    refine' LF.st_none "len" KX G ?a ?_; (case a => k_is); intro n_len
    refine' LF.st_none "range" KX G ?a ?_; (case a => k_is); intro n_range
    refine' LF.st_none "enumerate" KX G ?a ?_; (case a => k_is); intro n_enumerate
    refine' LF.st_none "sorted" KX G ?a ?_; (case a => k_is); intro n_sorted
    refine' LF.st_none "min" KX G ?a ?_; (case a => k_is); intro n_min
    refine' LF.st_none "max" KX G ?a ?_; (case a => k_is); intro n_max
    refine' LF.st_none "sum" KX G ?a ?_; (case a => k_is); intro n_sum
    refine' LF.st_none "any" KX G ?a ?_; (case a => k_is); intro n_any
    refine' LF.st_tup KX G ?a ?l ?_; (case a => k_is); (case l => k_is); intro NL
    have efa := Value.ref.inj (Option.some.inj (hmg.symm.trans g_answers))
    subst efa
    exact LF.assemble (A := ⟨_, _, _, _, _, _, _, _⟩) ⟨c_LAST_STOP, c_ANY_STOP, c_MOST_LEGS, c_DAY, c_MINUTES_END, c_LONGEST_WAIT⟩ ⟨c_MOST_MONEY, c_MOST_FARES, c_MOST_SALES, c_MOST_BREAKS, c_MOST_OFF, c_GIVEN_BACK, c_MISSING, c_NOW_WRONG, c_ALL_RIDDEN, c_GONE, c_TOUCHED, c_WRONG, c_FULL, c_NO_TICKETS⟩ ⟨c_BEGIN, c_FARE, c_CLOSE, c_PRICE, c_ASK, c_BUY, c_TICKETS, c_RIDE, c_BACK, c_CHANGE, c_BOOKS⟩ ⟨n_len, n_range, n_enumerate, n_sorted, n_min, n_max, n_sum, n_any⟩ NL TLeg FILeg TFare FIFare TCard FICard TTicket FITicket TStretch FIStretch TSale FISale TOffice FIOffice TReader FIReader F_grow m_grow F_legs_left m_legs_left F_next_leg m_next_leg F_next_ticket m_next_ticket F_is_touched m_is_touched F_may_give_back m_may_give_back F_tickets_to_give_back m_tickets_to_give_back F_exchange m_exchange F_reset m_reset F_begin m_begin F_add_fare m_add_fare F_has_fare m_has_fare F_close_fare m_close_fare F_set_price m_set_price F_ask m_ask F_is_time m_is_time F_buy m_buy F_has_sale m_has_sale F_list_tickets m_list_tickets F_ride m_ride F_give_back m_give_back F_change m_change F_books m_books F_at_end m_at_end F_take m_take F_take_many m_take_many F_take_row m_take_row F_legs_of g_legs_of F_is_leg g_is_leg F_is_journey g_is_journey F_covers g_covers F_ticket_cost g_ticket_cost F_offers_of g_offers_of F_best_offer g_best_offer F_best_plan g_best_plan F_tickets_of g_tickets_of F_cheapest g_cheapest F_total_paid g_total_paid F_is_fare g_is_fare F_is_card g_is_card F_answer_price g_answer_price F_answer_ask g_answer_ask F_answer_buy g_answer_buy F_answer_ride g_answer_ride F_answer_back g_answer_back F_answer_change g_answer_change F_answer_call g_answer_call F_answers g_answers
  case S =>
    intro K H xs a hO hwi hask hx
    cases hx with
    | cons h1 h2 =>
      cases h2
      cases h1 with
      | lst hs ha =>
        have e := L2.ints_dw a.1 _ ha
        subst e
        have q : ((Codec.inLen 0 31000 a.1 && a.1.all (Codec.inInt 0 4294967295)) && true) = true := hwi
        rw [Bool.and_eq_true, Bool.and_eq_true] at q
        have hall : ∀ x ∈ a.1, 0 ≤ x := fun x hx => (Codec.inInt_iff.mp (List.all_eq_true.mp q.1.2 x hx)).1
        have ez : LF.zs (a.1.map Int.toNat) = a.1 := LF.zs_of hall
        have en : LF.nats (a.1.map Int.toNat) = a.1.map L2.V.int := LF.nats_of hall
        refine ⟨_, a.1.map Int.toNat, rfl, by rw [en]; exact hs, by rw [List.length_map]; exact (Codec.inNat_iff.mp q.1.1).2, by rw [ez]; exact hask, fun H' p hp => ?_⟩
        rw [ez] at hp
        exact .lst (L2.SqL.of hp) (L2.dw_ints _)
#print axioms PySem.Challenge.cw_leastfare_s01_answers_holds
