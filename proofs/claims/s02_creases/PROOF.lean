import PyProof.Rows.All
import Wide.All
import OpenK.AllK
import Wide.FinOn
import PyProof.EqAt
import PyProof.EqKinds
import PyProof.TupleCall
import KE.BitLaws
import Open.SpecLaws
import KE.OsHead
import KE.OsGo
import PyProof.Rows.SortG.SortRunsSt
import KE.KSortTupG
import PyProof.NeKinds
import PySem.Challenge.RW_onesquare_s02_creases
set_option Elab.async false
set_option linter.all false
set_option maxRecDepth 100000
/-! THE HAND LAYER, for ints, bools, texts, own classes, lists, tuples, dicts, comprehensions, walks over dicts, enumerate, zip, reversed, texts, calls, loops. Paste it whole ahead of your own text; what your proof does not reach may be deleted. -/
namespace L2
open PySem PySem.Spec PyProof.Rows

/-- a key: an int or a str -/
abbrev Key := Sum Int Str
def keyIs : Key → Value → Bool
  | .inl k, v => Value.isInt k v
  | .inr x, v => Value.isStrOf x v
def keyH (w : World) : Key → Int
  | .inl k => hashInt k
  | .inr x => hashStr w x
theorem keyIs_shape : ∀ {k : Key} {v : Value}, keyIs k v = true → (∃ i t, k = Sum.inl i ∧ v = Value.int i t) ∨ (∃ x t, k = Sum.inr x ∧ v = Value.str x t)
  | .inl i, v, h => by
    obtain ⟨t, e⟩ := Value.isInt_shape (k := i) (v := v) h
    exact .inl ⟨i, t, rfl, e⟩
  | .inr x, v, h => by
    obtain ⟨t, e⟩ := Value.isStrOf_shape (x := x) (v := v) h
    exact .inr ⟨x, t, rfl, e⟩
theorem key_ll (a b : Int) : decide ((Sum.inl a : Key) = Sum.inl b) = (a == b) := by
  by_cases e : a = b
  · subst e; simp
  · have h : ¬ (Sum.inl a : Key) = Sum.inl b := fun q => e (Sum.inl.inj q)
    rw [decide_eq_false h]
    exact (beq_eq_false_iff_ne.mpr e).symm
theorem key_rr (a b : Str) : decide ((Sum.inr a : Key) = Sum.inr b) = decide (a = b) := by
  by_cases e : a = b
  · subst e; simp
  · have h : ¬ (Sum.inr a : Key) = Sum.inr b := fun q => e (Sum.inr.inj q)
    rw [decide_eq_false h, decide_eq_false e]
theorem key_lr (a : Int) (b : Str) : decide ((Sum.inl a : Key) = Sum.inr b) = false := decide_eq_false (fun q => nomatch q)
theorem key_rl (a : Str) (b : Int) : decide ((Sum.inr a : Key) = Sum.inl b) = false := decide_eq_false (fun q => nomatch q)

def mixKind (prog : Program) (w : World) : PySem.KeyKind prog w Key where
  is := keyIs
  hash := keyH w
  inj := fun v a b ha hb => by
    rcases keyIs_shape ha with ⟨i, t, rfl, rfl⟩ | ⟨x, t, rfl, rfl⟩
    · rcases keyIs_shape hb with ⟨j, u, rfl, e⟩ | ⟨y, u, rfl, e⟩
      · injection e with e1 _; rw [e1]
      · exact nomatch e
    · rcases keyIs_shape hb with ⟨j, u, rfl, e⟩ | ⟨y, u, rfl, e⟩
      · exact nomatch e
      · injection e with e1 _; rw [e1]
  byValue := fun k v h => by
    rcases keyIs_shape h with ⟨i, t, rfl, rfl⟩ | ⟨x, t, rfl, rfl⟩ <;> rfl
  pyHash := fun hv h => by
    rcases keyIs_shape hv with ⟨i, t, rfl, rfl⟩ | ⟨x, t, rfl, rfl⟩
    · exact wpAny_pyHash_int h
    · exact wpAny_pyHash_str h
  eqBool := fun hu hv h => by
    rcases keyIs_shape hu with ⟨i, t, rfl, rfl⟩ | ⟨x, t, rfl, rfl⟩
    · rcases keyIs_shape hv with ⟨j, u, rfl, rfl⟩ | ⟨y, u, rfl, rfl⟩
      · rw [key_ll] at h; exact wpAny_eqBool_int h
      · rw [key_lr] at h; exact SeqAt.EqAt.int_str i t y u _ _ _ _ h
    · rcases keyIs_shape hv with ⟨j, u, rfl, rfl⟩ | ⟨y, u, rfl, rfl⟩
      · rw [key_rl] at h; exact SeqAt.EqAt.str_int x t j u _ _ _ _ h
      · rw [key_rr] at h; exact wpAny_eqBool_str h
  «strs» := fun k x t v h => by
    rcases keyIs_shape h with ⟨i, u, rfl, e⟩ | ⟨y, u, rfl, e⟩
    · exact nomatch e
    · injection e with e1 _
      subst e1
      cases v <;> rfl

end L2

namespace L2
open PySem PySem.Spec PyProof.Rows

/-- a value, without the heap -/
inductive V where
  | non | bl (b : Bool) | int (i : Int) | str (x : Str) | byt (b : Array UInt8) | flt (b : UInt64) | ref (a : Addr) | ty (n : String)
  deriving DecidableEq

def RelV : V → Value → Prop
  | .non, u => u = Value.none
  | .bl b, u => u = Value.bool b
  | .int i, u => ∃ t, u = Value.int i t
  | .str x, u => ∃ t, u = Value.str x t
  | .byt b, u => ∃ t, u = Value.bytes b t
  | .flt b, u => ∃ t, u = Value.float b t
  | .ref a, u => u = Value.ref a
  | .ty n, u => u = Value.type n

abbrev Vals : List V → List Value → Prop := Paired RelV
theorem Vals.length {xs : List V} {us : List Value} (r : Vals xs us) : xs.length = us.length := Paired.length r
theorem Vals.get : ∀ {xs : List V} {us : List Value} {i : Nat} {x : V}, Vals xs us → xs[i]? = some x → ∃ u, us[i]? = some u ∧ RelV x u
  | _, _, _, _, .nil, e => by simp at e
  | _, _, 0, _, .cons r _, e => by simp at e; subst e; exact ⟨_, rfl, r⟩
  | _, _, i + 1, x, .cons _ t, e => by
    obtain ⟨u, h1, h2⟩ := Vals.get (i := i) (x := x) t (by simpa using e)
    exact ⟨u, by simpa using h1, h2⟩
theorem Vals.set {x : V} {u : Value} (r : RelV x u) : ∀ {xs : List V} {us : List Value} (i : Nat), Vals xs us → Vals (xs.set i x) (us.set i u)
  | _, _, _, .nil => .nil
  | _, _, 0, .cons _ t => .cons r t
  | _, _, i + 1, .cons q t => .cons q (Vals.set r i t)
theorem Vals.append : ∀ {xs ys : List V} {us ws : List Value}, Vals xs us → Vals ys ws → Vals (xs ++ ys) (us ++ ws)
  | _, _, _, _, .nil, s => s
  | _, _, _, _, .cons r t, s => .cons r (Vals.append t s)
def RelO : Option V → Option Value → Prop
  | some v, some u => RelV v u
  | none, none => True
  | _, _ => False
def KV {κ : Type} : List (κ × V) → List (κ × Value) → Prop := Paired fun (p : κ × V) (q : κ × Value) => p.1 = q.1 ∧ RelV p.2 q.2

/-- a key of a dict (00_mix): an int or a text -/
def kV : Key → V
  | .inl i => .int i
  | .inr x => .str x

/-- what stands at a tracked address -/
inductive HO where
  /-- a list -/
  | lst (xs : List V)
  /-- a tuple (never changes) -/
  | tup (xs : List V)
  /-- a dict whose keys are ints and texts; one whose keys are tuples of ints and texts (the empty one is both) -/
  | dK (kvs : List (Key × V)) | dT (kvs : List (List Key × V))
  /-- a set of ints: its members, its size -/
  | set (S : Int → Bool) (n : Nat)
  /-- an instance of the class at C, its dict at dx, its attributes -/
  | ins (C dx : Addr) (fs : List (Str × V))
  /-- the dict of the instance at x -/
  | own (x : Addr)
  /-- the dict of an exception -/
  | xd (fs : List (Str × V))
  /-- a bound method, f of x -/
  | met (f x : Addr)
  /-- a range object lo, lo + 1, .. below hi -/
  | rng (lo hi : Int)
  /-- a thing that is known to the object (the script; a dict while a loop walks it): read, never written while it is so -/
  | frz (o : Obj) (u : HO)
  /-- a code object's table -/
  | tbl (ps : Array Value)
  /-- any other thing, by what is true of its one object (a def of one's own: SetO a S n := HO.ext fun h => ..) -/
  | ext (φ : Heap → Prop)

abbrev Hp := Addr → Option HO
def upd (H : Hp) (a : Addr) (o : HO) : Hp := fun b => if b = a then some o else H b
theorem upd_same {H : Hp} {a : Addr} {o : HO} : upd H a o a = some o := by unfold upd; rw [if_pos rfl]
theorem upd_ne {H : Hp} {a b : Addr} {o : HO} (h : b ≠ a) : upd H a o b = H b := by unfold upd; rw [if_neg h]
/-- two objects of different content stand apart -/
theorem ne_of {H : Hp} {a b : Addr} {o u : HO} (h : H a = some o) (h' : H b = some u) (d : o ≠ u) : a ≠ b := by
  intro e; subst e; rw [h] at h'; exact d (Option.some.inj h')
theorem ne_of_none {H : Hp} {a b : Addr} {o : HO} (h : H a = some o) (h' : H b = none) : a ≠ b := by
  intro e; subst e; rw [h] at h'; cases h'

section
variable (P : Program) (w : World)
def ObjOk (H : Hp) (h : Heap) (a : Addr) : HO → Prop
  | .lst xs => xs.length ≤ sizeLine ∧ ∃ (its : List Value) (n : Nat), Vals xs its ∧ h.get? a = some { cls := .type "list", data := .seq its.toArray n }
  | .tup xs => xs.length ≤ sizeLine ∧ ∃ its : List Value, Vals xs its ∧ IsTup h a its.toArray
  | .dK kvs => kvs.length ≤ sizeLine ∧ (a == sysModules) = false ∧ ∃ vs, KV kvs vs ∧ h.DictOf (mixKind P w) a vs
  | .dT kvs => kvs.length ≤ sizeLine ∧ (a == sysModules) = false ∧ ∃ xs : List (List Key × Addr × Value),
      Paired (fun (p : List Key × V) (q : List Key × Addr × Value) => p.1 = q.1 ∧ H q.2.1 = some (.tup (p.1.map kV)) ∧ RelV p.2 q.2.2) kvs xs ∧
      ∃ o es ep, h.get? a = some o ∧ o.ExactDict ∧ o.data = .dict es ep ∧ es.toList = xs.map (entryOfKey (tupleKind (mixKind P w))) ∧ (xs.map (·.1)).Nodup
  | .set S n => h.SetOf (intKind P w) a S n
  | .ins C dx fs => H dx = some (.own a) ∧ fs.length ≤ 1000 ∧ dx ≠ a ∧ h.get? a = some (PySem.W.instObj C dx) ∧
      ∃ mA, h.Ns1 dx mA ∧ (∀ f, RelO (fs.lookup f) (mA f)) ∧ PySem.Within mA (fs.map (·.1))
  | .own _ => ∃ o, h.get? a = some o
  | .xd fs => ∃ mA, h.Ns1 a mA ∧ ∀ f, RelO (fs.lookup f) (mA f)
  | .rng lo hi => ∃ t u v, h.get? a = some { cls := .type "range", data := .fields #[.int lo t, .int hi u, .int 1 v] }
  | .frz o u => h.get? a = some o ∧ ObjOk H h a u
  | .tbl ps => h.get? a = some { cls := .none, data := .fields ps }
  | .met f x => h.get? a = some (PySem.W.methodObj (.ref f) (.ref x))
  | .ext φ => φ h ∧ (∃ o, h.get? a = some o) ∧ ∀ h1 h2 : Heap, φ h1 → (∀ o, h1.get? a = some o → h2.get? a = some o) → φ h2
/-- the abstract heap is held -/
def HOk (H : Hp) (h : Heap) : Prop := ∀ a o, H a = some o → ObjOk P w H h a o
end

section
variable {P : Program} {w : World} {H H' : Hp} {h h' : Heap} {a : Addr} {o : HO}
theorem ObjOk.lt (x : ObjOk P w H h a o) : a < h.objs.size := by
  cases o with
  | lst xs => obtain ⟨_, _, _, _, e⟩ := x; exact Heap.lt_size e
  | tup xs => obtain ⟨_, _, _, p⟩ := x; exact p.lt
  | dK kvs => obtain ⟨_, _, _, _, o, _, _, e, _⟩ := x; exact Heap.lt_size e
  | dT kvs => obtain ⟨_, _, _, _, o, _, _, e, _⟩ := x; exact Heap.lt_size e
  | set S n => obtain ⟨o, _, _, _, e, _⟩ := x; exact Heap.lt_size e
  | ins C dx fs => obtain ⟨_, _, _, e, _⟩ := x; exact Heap.lt_size e
  | own y => obtain ⟨_, e⟩ := x; exact Heap.lt_size e
  | xd fs => obtain ⟨_, ⟨_, _, _, e, _⟩, _⟩ := x; exact Heap.lt_size e
  | rng lo hi => obtain ⟨_, _, _, e⟩ := x; exact Heap.lt_size e
  | frz ob u => obtain ⟨e, _⟩ := x; exact Heap.lt_size e
  | tbl ps => exact Heap.lt_size (show h.get? a = some _ from x)
  | met f y => exact Heap.lt_size (show h.get? a = some _ from x)
  | ext φ => obtain ⟨_, ⟨_, e⟩, _⟩ := x; exact Heap.lt_size e
theorem Paired.mapP {α β : Type} {F G : α → β → Prop} : ∀ {l₁ : List α} {l₂ : List β}, Paired F l₁ l₂ → (∀ a b, F a b → G a b) → Paired G l₁ l₂
  | _, _, .nil, _ => .nil
  | _, _, .cons r t, f => .cons (f _ _ r) (Paired.mapP t f)
/-- what an object's description leans on: its own object, its own dict, the tuples -/
theorem ObjOk.stay (x : ObjOk P w H h a o) (k : ∀ b u, (b = a ∨ H b = some (.own a)) → h.get? b = some u → h'.get? b = some u)
    (ho : ∀ b, H b = some (.own a) → H' b = some (.own a)) (ht : ∀ b xs, H b = some (.tup xs) → H' b = some (.tup xs)) : ObjOk P w H' h' a o := by
  induction o with
  | lst xs => obtain ⟨z, its, n, r, e⟩ := x; exact ⟨z, its, n, r, k _ _ (.inl rfl) e⟩
  | tup xs => obtain ⟨z, its, r, ob, e, c⟩ := x; exact ⟨z, its, r, ob, k _ _ (.inl rfl) e, c⟩
  | dK kvs => obtain ⟨z, y, vs, r, ob, es, ep, e, c⟩ := x; exact ⟨z, y, vs, r, ob, es, ep, k _ _ (.inl rfl) e, c⟩
  | dT kvs =>
    obtain ⟨z, y, xs, r, ob, es, ep, e, c⟩ := x
    exact ⟨z, y, xs, Paired.mapP r fun p q z => ⟨z.1, ht _ _ z.2.1, z.2.2⟩, ob, es, ep, k _ _ (.inl rfl) e, c⟩
  | set S n => obtain ⟨ob, es, ep, t, e, c⟩ := x; exact ⟨ob, es, ep, t, k _ _ (.inl rfl) e, c⟩
  | ins C dx fs =>
    obtain ⟨d, z, ne, e, mA, ⟨od, es, ep, e2, c⟩, r⟩ := x
    exact ⟨ho _ d, z, ne, k _ _ (.inl rfl) e, mA, ⟨od, es, ep, k _ _ (.inr d) e2, c⟩, r⟩
  | own y => obtain ⟨ob, e⟩ := x; exact ⟨ob, k _ _ (.inl rfl) e⟩
  | xd fs => obtain ⟨mA, ⟨od, es, ep, e, c⟩, r⟩ := x; exact ⟨mA, ⟨od, es, ep, k _ _ (.inl rfl) e, c⟩, r⟩
  | rng lo hi => obtain ⟨t, u, v, e⟩ := x; exact ⟨t, u, v, k _ _ (.inl rfl) e⟩
  | frz ob u ih => obtain ⟨e, q⟩ := x; exact ⟨k _ _ (.inl rfl) e, ih q⟩
  | tbl ps =>
    have e : h.get? a = some { cls := .none, data := .fields ps } := x
    show h'.get? a = some { cls := .none, data := .fields ps }
    exact k a _ (.inl rfl) e
  | met f y =>
    have e : h.get? a = some (PySem.W.methodObj (.ref f) (.ref y)) := x
    show h'.get? a = some (PySem.W.methodObj (.ref f) (.ref y))
    exact k a _ (.inl rfl) e
  | ext φ => obtain ⟨p, ⟨o, e⟩, st⟩ := x; exact ⟨st _ _ p fun o q => k _ _ (.inl rfl) q, ⟨o, k _ _ (.inl rfl) e⟩, st⟩
theorem HOk.lt (x : HOk P w H h) (e : H a = some o) : a < h.objs.size := (x a o e).lt
theorem HOk.fresh (x : HOk P w H h) (e : h.objs.size ≤ a) : H a = none := by
  cases q : H a with
  | none => rfl
  | some u => exact absurd (Nat.lt_of_lt_of_le (x.lt q) e) (Nat.lt_irrefl _)
/-- every object of the heap is kept -/
theorem HOk.kept (x : HOk P w H h) (k : ∀ b u, h.get? b = some u → h'.get? b = some u) : HOk P w H h' := fun a o e =>
  (x a o e).stay (fun b u _ q => k b u q) (fun _ q => q) fun _ _ q => q
/-- a new object is laid and tracked -/
theorem HOk.laid (x : HOk P w H h) (k : ∀ b u, h.get? b = some u → h'.get? b = some u) (hp : h.objs.size ≤ a) (new : ObjOk P w (upd H a o) h' a o) : HOk P w (upd H a o) h' := fun b u e => by
  have hn := x.fresh hp
  by_cases hb : b = a
  · subst hb; rw [upd_same] at e; cases e; exact new
  · rw [upd_ne hb] at e
    exact (x b u e).stay (fun c v _ q => k c v q) (fun c q => by rw [upd_ne (ne_of_none q hn)]; exact q) fun c xs q => by rw [upd_ne (ne_of_none q hn)]; exact q
end

/-- what may be read as u: it is u, or a known u -/
def Rd (H : Hp) (a : Addr) (u : HO) : Prop := H a = some u ∨ ∃ o, H a = some (.frz o u)
theorem Rd.ok {P : Program} {w : World} {H : Hp} {h : Heap} {a : Addr} {u : HO} (r : Rd H a u) (x : HOk P w H h) : ObjOk P w H h a u := by
  rcases r with r | ⟨o, r⟩
  · exact x a u r
  · obtain ⟨_, q⟩ := x a _ r
    exact q
/-- what may be written -/
def Mut : Option HO → Prop
  | some (.lst _) => True
  | some (.dK _) => True
  | some (.dT _) => True
  | some (.set _ _) => True
  | some (.ins _ _ _) => True
  | some (.ext _) => True
  | _ => False
section
variable {P : Program} {w : World} {H : Hp} {h h' : Heap} {x e : Addr} {o' : HO}
/-- the object at e is changed: x itself, or the dict of the instance x -/
theorem HOk.write (ok : HOk P w H h) (mu : Mut (H x)) (he : e = x ∨ H e = some (.own x)) (k : ∀ b u, b ≠ e → h.get? b = some u → h'.get? b = some u) (heo : ∃ u, h'.get? e = some u)
    (new : ObjOk P w (upd H x o') h' x o') : HOk P w (upd H x o') h' := fun b u q => by
  have nown : ∀ c y, H c = some (.own y) → c ≠ x := fun c y r z => by subst z; rw [r] at mu; exact mu
  have ntup : ∀ c xs, H c = some (.tup xs) → c ≠ x := fun c xs r z => by subst z; rw [r] at mu; exact mu
  by_cases hb : b = x
  · subst hb; rw [upd_same] at q; cases q; exact new
  · rw [upd_ne hb] at q
    by_cases hbe : b = e
    · have q' : H b = some (.own x) := by
        rcases he with z | z
        · exact absurd (hbe.trans z) hb
        · rw [hbe]; exact z
      rw [q] at q'; cases q'
      obtain ⟨v, hv⟩ := heo
      exact ⟨v, by rw [hbe]; exact hv⟩
    · refine (ok b u q).stay (fun c v hc r => k c v ?_ r) (fun c r => by rw [upd_ne (nown c b r)]; exact r) fun c xs r => by rw [upd_ne (ntup c xs r)]; exact r
      rcases hc with rfl | hc
      · exact hbe
      · rintro rfl
        rcases he with z | z
        · exact nown c b hc z
        · rw [hc] at z; cases z; exact hb rfl
end

/-! ### kept unless tracked; of the frames at fs (the callers') the slots may change (an exception that passes writes there); of the records at ex (iterators) nothing is said -/
structure Un (fs ex : List Addr) (H H' : Hp) (h h' : Heap) : Prop where
  keep : ∀ b o, h.get? b = some o → H b = none → b ∉ fs → b ∉ ex → h'.get? b = some o
  slot : ∀ b o, h.get? b = some o → H b = none → b ∈ fs → b ∉ ex → ∃ sl, h'.get? b = some { o with slots := sl }
  free : ∀ b o, h.get? b = some o → H b = none → b ∉ ex → H' b = none
  there : ∀ b o, h.get? b = some o → b ∉ ex → ∃ o', h'.get? b = some o'
  tups : ∀ b xs, H b = some (.tup xs) → H' b = some (.tup xs)
  frzs : ∀ b o u, H b = some (.frz o u) → H' b = some (.frz o u)
  tbls : ∀ b ps, H b = some (.tbl ps) → ∃ more, H' b = some (.tbl (ps ++ more))
section
variable {fs fs' ex ex' : List Addr} {H H1 H2 : Hp} {h h1 h2 h' : Heap} {a x e : Addr} {o : HO}
theorem Un.any (u : Un fs ex H H1 h h1) {b : Addr} {ob : Obj} (q : h.get? b = some ob) (n : H b = none) (hx : b ∉ ex) : ∃ sl, h1.get? b = some { ob with slots := sl } := by
  by_cases hb : b ∈ fs
  · exact u.slot b ob q n hb hx
  · exact ⟨ob.slots, u.keep b ob q n hb hx⟩
theorem Un.kept (k : ∀ b u, h.get? b = some u → h'.get? b = some u) : Un fs ex H H h h' :=
  ⟨fun b ob q _ _ _ => k b ob q, fun b ob q _ _ _ => ⟨ob.slots, k b ob q⟩, fun _ _ _ n _ => n, fun b ob q _ => ⟨ob, k b ob q⟩, fun _ _ q => q, fun _ _ _ q => q, fun _ ps q => ⟨#[], by rw [q]; simp⟩⟩
theorem Un.refl : Un fs ex H H h h := Un.kept fun _ _ q => q
theorem Un.laid (k : ∀ b u, h.get? b = some u → h'.get? b = some u) (hp : h.objs.size ≤ a) (hn : H a = none) : Un fs ex H (upd H a o) h h' where
  keep := fun b u q _ _ _ => k b u q
  slot := fun b u q _ _ _ => ⟨u.slots, k b u q⟩
  free := fun b u q n _ => by rw [upd_ne (Nat.ne_of_lt (Nat.lt_of_lt_of_le (Heap.lt_size q) hp))]; exact n
  there := fun b u q _ => ⟨u, k b u q⟩
  tups := fun b xs q => by rw [upd_ne (ne_of_none q hn)]; exact q
  frzs := fun b u xs q => by rw [upd_ne (ne_of_none q hn)]; exact q
  tbls := fun b ps q => ⟨#[], by rw [upd_ne (ne_of_none q hn), q]; simp⟩
theorem Un.write (mu : Mut (H x)) (he : e = x ∨ H e = some (.own x)) (k : ∀ b u, b ≠ e → h.get? b = some u → h'.get? b = some u) (heo : ∃ u, h'.get? e = some u) : Un fs ex H (upd H x o) h h' := by
  have hx : ∀ b, H b = none → b ≠ x := fun b n z => by subst z; rw [n] at mu; exact mu
  have hb : ∀ b, H b = none → b ≠ e := fun b n z => by
    subst z
    rcases he with r | r
    · exact hx b n r
    · rw [n] at r; cases r
  have hm : ∀ b u, H b = some u → ¬ Mut (some u) → b ≠ x := fun b u q nm z => by subst z; rw [q] at mu; exact nm mu
  refine ⟨fun b u q n _ _ => k b u (hb b n) q, fun b u q n _ _ => ⟨u.slots, k b u (hb b n) q⟩, fun b u q n _ => by rw [upd_ne (hx b n)]; exact n, fun b u q _ => ?_,
    fun b xs q => by rw [upd_ne (hm b _ q fun z => z)]; exact q, fun b u xs q => by rw [upd_ne (hm b _ q fun z => z)]; exact q, fun b ps q => ⟨#[], by rw [upd_ne (hm b _ q fun z => z), q]; simp⟩⟩
  by_cases hbe : b = e
  · subst hbe; exact heo
  · exact ⟨u, k b u hbe q⟩
end

/-! ### the heap without what is tracked -/
def trk (h : Heap) (H : Hp) : List Addr := (List.range h.objs.size).filter fun a => (H a).isSome
def hidT (h : Heap) (H : Hp) : Heap := PySem.W.hideAll h (trk h H)
theorem hidT_size (h : Heap) (H : Hp) : (hidT h H).objs.size = h.objs.size := PySem.W.hideAll_size _ _
theorem hidT_get {h : Heap} {H : Hp} {b : Addr} {o : Obj} (e : h.get? b = some o) (n : H b = none) : (hidT h H).get? b = some o :=
  PySem.W.hideAll_get _ e fun hm => by
    have q : (H b).isSome = true := (List.mem_filter.mp hm).2
    rw [n] at q; simp at q
theorem of_hidT {h : Heap} {H : Hp} {b : Addr} {o : Obj} (e : (hidT h H).get? b = some o) : h.get? b = some o ∧ H b = none := by
  have e' : h.get? b = some o := PySem.W.of_hideAll (trk h H) e
  refine ⟨e', ?_⟩
  cases q : H b with
  | none => rfl
  | some x =>
    have hm : b ∈ trk h H := List.mem_filter.mpr ⟨List.mem_range.mpr (Heap.lt_size e'), by simp [q]⟩
    have z : (hidT h H).get? b = none := PySem.W.hideAll_none (trk h H) hm
    rw [z] at e; cases e

/-! ### OpenK's ledger, filled with every new object but one -/
end L2

namespace L2
open PySem PySem.Spec PyProof.Rows

/-- the module's facts, over the base: the heap at the law's entry without what is tracked there -/
structure Mod (K : PySem.W.Frag) (mg : Str → Option Value) (base : Heap) : Prop where
  kin : K.In base
  glob : base.Ns mainGlobals mg
  blt : ∃ mb, base.Ns builtinsNs mb ∧ ∀ x : Str, x ≠ "__name__" → mb x = bootBuiltins x
  nolimit : base.NoLimit

/-- the context: a def's body (or a comprehension's block) running. base: fixed through the whole law; s₀, H₀: the entry; outer: the frames whose slots others may change (a def's callers); stack: all frames that run;
   ex: iterators that were made ahead of the entry and are walked here (a comprehension's); fn: the names whose cells were made at the entry (a def: all; a comprehension's block: its own); calm: not within an except suite; pn: pins that every state bears; xe: what is wanted of an exception that leaves the code -/
structure Cx where
  prog : Program
  w : World
  K : PySem.W.Frag
  mg : Str → Option Value
  base : Heap
  A : Around
  N : List Str
  s_0 : Shared
  H_0 : Hp
  env : Env
  outer : List Env
  stack : List Env
  ex : List Addr
  fn : Str → Bool
  calm : Bool
  pn : List (Addr × Obj)
  xe : Value → Shared → Prop
/-- the callers' frames -/
def frs (l : List Env) : List Addr := l.filterMap (·.frame)
abbrev Cx.fs (X : Cx) : List Addr := frs X.outer

def Vis (sc : Scope) (x : Str) : Prop := sc.names.lookup x = some .local ∨ sc.names.lookup x = some .cell ∨ sc.names.lookup x = some .free
def Loc (sc : Scope) (x : Str) : Prop := sc.names.lookup x = some .local ∨ sc.names.lookup x = some .cell
def Look (env : Env) (h : Heap) (m : Str → Option Value) (x : Str) (u : Value) : Prop :=
  (env.kindOf x = some .local ∧ m x = some u) ∨ ((env.kindOf x = some .cell ∨ env.kindOf x = some .free) ∧ ∃ c, env.cells.lookup x = some c ∧ h.IsCell c (some u))

structure Cx.Ok (X : Cx) : Prop where
  mod : Mod X.K X.mg X.base
  kind : X.env.scope.kind = .function
  glob : X.env.globals = mainGlobals
  blt : X.env.builtins = builtinsNs
  above : X.s_0.heap.objs.size ≤ X.env.locals
  inj : ∀ x y c, X.env.cells.lookup x = some c → X.env.cells.lookup y = some c → x = y
  has : ∀ x, (X.env.kindOf x = some .cell ∨ X.env.kindOf x = some .free) → ∃ c, X.env.cells.lookup x = some c
  cab : ∀ x c, X.fn x = true → X.env.cells.lookup x = some c → X.s_0.heap.objs.size ≤ c
  hd : X.calm = true → X.A.handled = none
  frames : X.A.frames = some X.stack
  stk : X.stack = X.outer ∨ (X.stack = X.env :: X.outer ∧ X.env.frame = some X.env.locals)
  exf : ∀ b ∈ X.ex, b ≠ X.env.locals ∧ ∀ x c, X.env.cells.lookup x = some c → c ≠ b
  bs : ∀ b o, X.base.get? b = some o → X.s_0.heap.get? b = some o ∧ X.H_0 b = none
  bsz : X.base.objs.size ≤ X.s_0.heap.objs.size
  noex : ∀ b o, X.base.get? b = some o → b ∉ X.ex
  exfs : ∀ b ∈ X.ex, b ∉ X.fs
  funs : X.s_0.heap.FunFrames X.base X.outer
  frf : ∀ b ∈ X.fs, X.H_0 b = none

structure Inv (X : Cx) (pins : List (Addr × Obj)) (σ : List (Option V)) (H : Hp) (s : Shared) : Prop where
  ok : X.Ok
  os : s.os = X.s_0.os
  bare : AllBare s.gens
  base : Un X.fs X.ex X.H_0 H X.s_0.heap s.heap
  loc : ∃ m, s.heap.Ns X.env.locals m ∧ ∀ (i : Nat) (x : Str) (v : V), X.N[i]? = some x → σ[i]? = some (some v) → Vis X.env.scope x → ∃ u, RelV v u ∧ Look X.env s.heap m x u
  cell : ∀ x c, X.env.cells.lookup x = some c → ∃ v, s.heap.IsCell c v
  free : H X.env.locals = none
  freeC : ∀ x c, X.env.cells.lookup x = some c → H c = none
  pin : ∀ p ∈ X.pn ++ pins, s.heap.get? p.1 = some p.2 ∧ H p.1 = none ∧ p.1 ≠ X.env.locals ∧ p.1 ∉ X.fs ∧ ∀ v, p.2.data ≠ .cell v
  hok : HOk X.prog X.w H s.heap
  len : σ.length = X.N.length

section
variable {X : Cx} {pins : List (Addr × Obj)} {σ : List (Option V)} {H H' : Hp} {s : Shared} {h' : Heap}

theorem Cx.Ok.nofr (ok : X.Ok) {b : Addr} {o : Obj} (e : X.base.get? b = some o) : b ∉ X.fs := fun hb => by
  have := (ok.funs.mem hb).1
  rw [e] at this; cases this
theorem Inv.bs (I : Inv X pins σ H s) : ∀ b o, X.base.get? b = some o → s.heap.get? b = some o ∧ H b = none := fun b o e =>
  ⟨I.base.keep b o (I.ok.bs b o e).1 (I.ok.bs b o e).2 (I.ok.nofr e) (I.ok.noex b o e), I.base.free b o (I.ok.bs b o e).1 (I.ok.bs b o e).2 (I.ok.noex b o e)⟩
theorem Inv.bk (I : Inv X pins σ H s) : ∀ b o, X.base.get? b = some o → s.heap.get? b = some o := fun b o e => (I.bs b o e).1
theorem Inv.mod (I : Inv X pins σ H s) : Mod X.K X.mg X.base := I.ok.mod
theorem Inv.kIn (I : Inv X pins σ H s) : X.K.In s.heap := I.ok.mod.kin.keeps I.bk
theorem Inv.lt (I : Inv X pins σ H s) : X.env.locals < s.heap.objs.size := let ⟨_, hn, _⟩ := I.loc; hn.lt
theorem Inv.sz (I : Inv X pins σ H s) : X.s_0.heap.objs.size ≤ s.heap.objs.size := Nat.le_trans I.ok.above (Nat.le_of_lt I.lt)
theorem Inv.nofs (I : Inv X pins σ H s) {a : Addr} (h : s.heap.objs.size ≤ a) : a ∉ X.fs := fun hb => by
  obtain ⟨_, o, ho, _⟩ := I.ok.funs.mem hb
  exact absurd (Nat.lt_of_lt_of_le (Heap.lt_size ho) (Nat.le_trans I.sz h)) (Nat.lt_irrefl _)
theorem Inv.cne (I : Inv X pins σ H s) : ∀ x c, X.env.cells.lookup x = some c → c ≠ X.env.locals := fun x c e z => by
  obtain ⟨v, o, ho, hd⟩ := I.cell x c e
  obtain ⟨m, ⟨o', es, ep, ho', hd', _⟩, _⟩ := I.loc
  rw [z, ho'] at ho; cases ho; rw [hd'] at hd; cases hd
theorem Inv.funs (I : Inv X pins σ H s) : s.heap.FunFrames X.base X.outer := by
  have all : ∀ (l : List Env), (∀ b ∈ frs l, b ∈ X.fs) → X.s_0.heap.FunFrames X.base l → s.heap.FunFrames X.base l := by
    intro l
    induction l with
    | nil => intro _ _; trivial
    | cons env r ih =>
      intro hs hl
      obtain ⟨hk, ⟨L, o, hf, hn, ho, hd⟩, hr⟩ := hl
      have hL : L ∈ X.fs := hs L (by unfold frs; rw [List.filterMap_cons, hf]; exact List.mem_cons_self)
      obtain ⟨sl, e⟩ := I.base.slot L o ho (I.ok.frf L hL) hL fun z => I.ok.exfs L z hL
      exact ⟨hk, ⟨L, _, hf, hn, e, hd⟩, ih (fun b hb => hs b (by unfold frs; rw [List.filterMap_cons, hf]; exact List.mem_cons_of_mem _ hb)) hr⟩
  exact all X.outer (fun _ hb => hb) I.ok.funs

/-- the frames that run, for a call -/
theorem Inv.stack (I : Inv X pins σ H s) : s.heap.FunFrames X.base X.stack := by
  rcases I.ok.stk with e | ⟨e, hf⟩
  · rw [e]; exact I.funs
  · rw [e]
    obtain ⟨m, hn, _⟩ := I.loc
    refine .cons (by rw [I.ok.kind]; decide) hf hn ?_ I.funs
    exact Heap.get?_none_of_le (Nat.le_trans I.ok.bsz I.ok.above)
theorem Inv.stkSub (I : Inv X pins σ H s) : ∀ b ∈ frs X.stack, b ∈ X.env.locals :: X.fs := fun b hb => by
  rcases I.ok.stk with e | ⟨e, hf⟩
  · rw [e] at hb; exact List.mem_cons_of_mem _ hb
  · rw [e] at hb
    unfold frs at hb
    rw [List.filterMap_cons, hf] at hb
    exact hb
theorem Inv.stkFree (I : Inv X pins σ H s) : ∀ b ∈ frs X.stack, H b = none := fun b hb => by
  rcases List.mem_cons.mp (I.stkSub b hb) with e | hb
  · rw [e]; exact I.free
  · obtain ⟨_, o, ho, _⟩ := I.ok.funs.mem hb
    exact I.base.free b o ho (I.ok.frf b hb) fun z => I.ok.exfs b z hb

/-- THE STEP: the untracked objects but the frame and the records at ch are kept (the callers' frames up to slots), the frame's map is kept, the new abstract heap is held -/
theorem Inv.step {g' : Array GenState} {t' : Nat} {d' : Drawn} {ch : List Addr} (I : Inv X pins σ H s)
    (hch : ∀ b ∈ ch, (b ∈ X.ex ∨ X.s_0.heap.objs.size ≤ b) ∧ b ≠ X.env.locals ∧ (∀ x c, X.env.cells.lookup x = some c → c ≠ b) ∧ ∀ p ∈ X.pn ++ pins, p.1 ≠ b)
    (keep : ∀ b o, b ≠ X.env.locals → b ∉ X.fs → b ∉ ch → s.heap.get? b = some o → H b = none → h'.get? b = some o)
    (slot : ∀ b o, b ≠ X.env.locals → b ∈ X.fs → b ∉ ch → s.heap.get? b = some o → H b = none → ∃ sl, h'.get? b = some { o with slots := sl }) (free : ∀ b o, b ∉ ch → s.heap.get? b = some o → H b = none → H' b = none)
    (there : ∀ b o, b ∉ ch → s.heap.get? b = some o → ∃ o', h'.get? b = some o')
    (tups : ∀ b xs, H b = some (.tup xs) → H' b = some (.tup xs)) (frzs : ∀ b o u, H b = some (.frz o u) → H' b = some (.frz o u)) (tbls : ∀ b ps, H b = some (.tbl ps) → ∃ more, H' b = some (.tbl (ps ++ more)))
    (ns : ∀ m, s.heap.Ns X.env.locals m → h'.Ns X.env.locals m) (hok : HOk X.prog X.w H' h') (hg : AllBare g') :
    Inv X pins σ H' { s with heap := h', gens := g', drawn := d', toks := t' } := by
  have neL : ∀ b o, X.s_0.heap.get? b = some o → b ≠ X.env.locals := fun b o e => Nat.ne_of_lt (Nat.lt_of_lt_of_le (Heap.lt_size e) I.ok.above)
  have neC : ∀ b o, X.s_0.heap.get? b = some o → b ∉ X.ex → b ∉ ch := fun b o e hx hb => by
    rcases (hch b hb).1 with z | z
    · exact hx z
    · exact absurd (Nat.lt_of_lt_of_le (Heap.lt_size e) z) (Nat.lt_irrefl _)
  have cellK : ∀ x c, X.env.cells.lookup x = some c → ∀ v, s.heap.IsCell c v → h'.IsCell c v := fun x c e v ⟨o, ho, hd⟩ => by
    have nch : c ∉ ch := fun z => (hch c z).2.2.1 x c e rfl
    by_cases hc : c ∈ X.fs
    · obtain ⟨sl, q⟩ := slot c o (I.cne x c e) hc nch ho (I.freeC x c e)
      exact ⟨_, q, hd⟩
    · exact ⟨o, keep c o (I.cne x c e) hc nch ho (I.freeC x c e), hd⟩
  refine ⟨I.ok, I.os, hg, ⟨fun b o e n hb hx => ?_, fun b o e n hb hx => ?_, fun b o e n hx => ?_, fun b o e hx => ?_, fun b xs e => tups b xs (I.base.tups b xs e), fun b o xs e => frzs b o xs (I.base.frzs b o xs e), fun b ps e => ?_⟩, ?_, fun x c e => ?_, ?_, fun x c e => ?_, fun p hp => ?_, hok, I.len⟩
  · exact keep b o (neL b o e) hb (neC b o e hx) (I.base.keep b o e n hb hx) (I.base.free b o e n hx)
  · obtain ⟨sl, e1⟩ := I.base.slot b o e n hb hx
    obtain ⟨sl', e2⟩ := slot b _ (neL b o e) hb (neC b o e hx) e1 (I.base.free b o e n hx)
    exact ⟨sl', e2⟩
  · obtain ⟨o', e1⟩ := I.base.there b o e hx
    exact free b o' (neC b o e hx) e1 (I.base.free b o e n hx)
  · obtain ⟨o', e1⟩ := I.base.there b o e hx
    exact there b o' (neC b o e hx) e1
  · obtain ⟨m1, e1⟩ := I.base.tbls b ps e
    obtain ⟨m2, e2⟩ := tbls b _ e1
    exact ⟨m1 ++ m2, by rw [e2, Array.append_assoc]⟩
  · obtain ⟨m, hn, hl⟩ := I.loc
    refine ⟨m, ns m hn, fun i x v e1 e2 e3 => ?_⟩
    obtain ⟨u, r, l⟩ := hl i x v e1 e2 e3
    refine ⟨u, r, ?_⟩
    rcases l with l | ⟨k, c, e, z⟩
    · exact .inl l
    · exact .inr ⟨k, c, e, cellK x c e _ z⟩
  · obtain ⟨v, z⟩ := I.cell x c e
    exact ⟨v, cellK x c e v z⟩
  · obtain ⟨m, ⟨o, _, _, ho, _⟩, _⟩ := I.loc
    exact free _ o (fun z => (hch _ z).2.1 rfl) ho I.free
  · obtain ⟨v, o, ho, hd⟩ := I.cell x c e
    exact free c o (fun z => (hch c z).2.2.1 x c e rfl) ho (I.freeC x c e)
  · obtain ⟨e, n, ne, nf, d⟩ := I.pin p hp
    have nch : p.1 ∉ ch := fun z => (hch p.1 z).2.2.2 p hp rfl
    exact ⟨keep p.1 p.2 ne nf nch e n, free p.1 p.2 nch e n, ne, nf, d⟩
/-- .. where the frame's own object is kept too -/
theorem Inv.un {t' : Nat} (I : Inv X pins σ H s) (u : Un X.fs [] H H' s.heap h') (hok : HOk X.prog X.w H' h') : Inv X pins σ H' { s with heap := h', toks := t' } := by
  obtain ⟨m, ⟨o, es, ep, ho, r⟩, _⟩ := id I.loc
  obtain ⟨sl, hL⟩ := u.any ho I.free (by simp)
  exact I.step (g' := s.gens) (d' := s.drawn) (ch := []) (fun _ z => nomatch z) (fun b o _ hb _ e n => u.keep b o e n hb (by simp)) (fun b o _ hb _ e n => u.slot b o e n hb (by simp)) (fun b o _ e n => u.free b o e n (by simp)) (fun b o _ e => u.there b o e (by simp)) u.tups u.frzs u.tbls (fun m' hm => by
    obtain ⟨o', es', ep', ho', r'⟩ := hm
    rw [ho] at ho'; cases ho'
    exact ⟨_, es', ep', hL, r'⟩) hok I.bare
/-- behind a call (or a comprehension's block): the slots of this frame may have changed too, the records at ch may have turned -/
theorem Inv.call {g' : Array GenState} {t' : Nat} {d' : Drawn} {ch : List Addr} (I : Inv X pins σ H s) (u : Un (frs X.stack) ch H H' s.heap h') (hok : HOk X.prog X.w H' h') (hg : AllBare g')
    (hch : ∀ b ∈ ch, (b ∈ X.ex ∨ X.s_0.heap.objs.size ≤ b) ∧ b ≠ X.env.locals ∧ (∀ x c, X.env.cells.lookup x = some c → c ≠ b) ∧ ∀ p ∈ X.pn ++ pins, p.1 ≠ b) :
    Inv X pins σ H' { s with heap := h', gens := g', drawn := d', toks := t' } := by
  obtain ⟨m, ⟨o, es, ep, ho, r⟩, _⟩ := id I.loc
  obtain ⟨sl, hL⟩ := u.any ho I.free fun z => (hch _ z).2.1 rfl
  exact I.step (ch := ch) hch (fun b o hL hb hc e n => u.keep b o e n (fun z => (List.mem_cons.mp (I.stkSub b z)).elim hL hb) hc) (fun b o _ _ hc e n => u.any e n hc) (fun b o hc e n => u.free b o e n hc) (fun b o hc e => u.there b o e hc) u.tups u.frzs u.tbls (fun m' hm => by
    obtain ⟨o', es', ep', ho', r'⟩ := hm
    rw [ho] at ho'; cases ho'
    exact ⟨_, es', ep', hL, r'⟩) hok hg
/-- an untracked record of ours (an iterator) has turned -/
theorem Inv.turned {t' : Nat} {it : Addr} (I : Inv X pins σ H s) (k : ∀ b o, b ≠ it → s.heap.get? b = some o → h'.get? b = some o) (hn : H it = none) (hL : it ≠ X.env.locals)
    (h1 : it ∈ X.ex ∨ X.s_0.heap.objs.size ≤ it) (h2 : ∀ x c, X.env.cells.lookup x = some c → c ≠ it) (h3 : ∀ p ∈ X.pn ++ pins, p.1 ≠ it) : Inv X pins σ H { s with heap := h', toks := t' } := by
  have nit : ∀ b u, H b = some u → b ≠ it := fun b u e z => by rw [z, hn] at e; cases e
  refine I.step (g' := s.gens) (d' := s.drawn) (ch := [it]) (fun b hb => ?_) (fun b o _ _ hc e _ => k b o (fun z => hc (by simp [z])) e) (fun b o _ _ hc e _ => ⟨o.slots, k b o (fun z => hc (by simp [z])) e⟩) (fun _ _ _ _ n => n)
    (fun b o hc e => ⟨o, k b o (fun z => hc (by simp [z])) e⟩) (fun _ _ e => e) (fun _ _ _ e => e) (fun b ps e => ⟨#[], by rw [e]; simp⟩) (fun m hm => ?_) (fun b u e => ?_) I.bare
  · have e : b = it := by simpa using hb
    subst e
    exact ⟨h1, hL, h2, h3⟩
  · obtain ⟨o, es, ep, ho, r⟩ := hm
    exact ⟨o, es, ep, k _ o (Ne.symm hL) ho, r⟩
  · refine (I.hok b u e).stay (fun c v hc q => k c v ?_ q) (fun _ q => q) fun _ _ q => q
    rcases hc with z | z
    · rw [z]; exact nit b u e
    · exact nit c _ z
theorem Inv.tok (I : Inv X pins σ H s) (t : Nat) : Inv X pins σ H { s with toks := t } := I.un (h' := s.heap) (t' := t) Un.refl I.hok
/-- all objects kept -/
theorem Inv.kept {t' : Nat} (I : Inv X pins σ H s) (k : ∀ b u, s.heap.get? b = some u → h'.get? b = some u) : Inv X pins σ H { s with heap := h', toks := t' } := I.un (Un.kept k) (I.hok.kept k)
/-- a new object laid and tracked -/
theorem Inv.laid {a : Addr} {o : HO} {t' : Nat} (I : Inv X pins σ H s) (k : ∀ b u, s.heap.get? b = some u → h'.get? b = some u) (hp : s.heap.objs.size ≤ a) (new : ObjOk X.prog X.w (upd H a o) h' a o) :
    Inv X pins σ (upd H a o) { s with heap := h', toks := t' } := I.un (Un.laid k hp (I.hok.fresh hp)) (I.hok.laid k hp new)
/-- an object written -/
theorem Inv.write {x e : Addr} {o : HO} {t' : Nat} (I : Inv X pins σ H s) (mu : Mut (H x)) (he : e = x ∨ H e = some (.own x)) (k : ∀ b u, b ≠ e → s.heap.get? b = some u → h'.get? b = some u) (heo : ∃ u, h'.get? e = some u)
    (new : ObjOk X.prog X.w (upd H x o) h' x o) : Inv X pins σ (upd H x o) { s with heap := h', toks := t' } := I.un (Un.write mu he k heo) (I.hok.write mu he k heo new)
/-- forgetting slots, pins -/
theorem Inv.weak {σ' : List (Option V)} (I : Inv X pins σ H s) (hl : σ'.length = σ.length) (w : ∀ (i : Nat) v, σ'[i]? = some (some v) → σ[i]? = some (some v)) : Inv X pins σ' H s :=
  ⟨I.ok, I.os, I.bare, I.base, let ⟨m, hn, hl'⟩ := I.loc; ⟨m, hn, fun i x v e1 e2 e3 => hl' i x v e1 (w i v e2) e3⟩, I.cell, I.free, I.freeC, I.pin, I.hok, hl.trans I.len⟩
theorem Inv.pins_of {pins' : List (Addr × Obj)} (I : Inv X pins σ H s) (h : ∀ p ∈ pins', s.heap.get? p.1 = some p.2 ∧ H p.1 = none ∧ p.1 ≠ X.env.locals ∧ p.1 ∉ X.fs ∧ ∀ v, p.2.data ≠ .cell v) : Inv X pins' σ H s :=
  ⟨I.ok, I.os, I.bare, I.base, I.loc, I.cell, I.free, I.freeC, fun p hp => (List.mem_append.mp hp).elim (fun z => I.pin p (List.mem_append_left _ z)) (h p), I.hok, I.len⟩

theorem nodup_ix {N : List Str} (hN : N.Nodup) {i j : Nat} {x : Str} (a : N[i]? = some x) (b : N[j]? = some x) : i = j := by
  obtain ⟨h1, e1⟩ := List.getElem?_eq_some_iff.mp a
  obtain ⟨h2, e2⟩ := List.getElem?_eq_some_iff.mp b
  exact (List.getElem_inj hN).mp (e1.trans e2.symm)

/-- a name is stored; what changed -/
theorem store_ok2 {M : Model} {A : Around} {E : Value → Shared → Prop} {i : Nat} {x : Str} {v : V} {u : Value} {Q : Unit → Shared → Prop} (I : Inv X pins σ H s) (hN : X.N.Nodup) (hi : X.N[i]? = some x) (hx : Loc X.env.scope x) (r : RelV v u)
    (h : ∀ s', Inv X pins (σ.set i (some v)) H s' → (∃ a, Heap.SameBut a s.heap s'.heap ∧ (a = X.env.locals ∨ X.env.cells.lookup x = some a)) → Q () s') (hf : X.fn x = true ∨ X.env.scope.names.lookup x = some .local := by first | exact .inl rfl | exact .inr rfl | assumption) : wpAny M A (storeName X.env x u) Q E s := by
  obtain ⟨m, hn, hl⟩ := id I.loc
  have hcls : (X.env.scope.kind == .class || (X.env.scope.kind == .module && X.env.locals != X.env.globals)) = false := by rw [I.ok.kind]; rfl
  have hiσ : i < σ.length := by rw [I.len]; exact (List.getElem?_eq_some_iff.mp hi).1
  have cne := I.cne
  have tracked : ∀ {a : Addr} {h' : Heap}, (∃ o, s.heap.get? a = some o ∧ H a = none) → Heap.SameBut a s.heap h' → HOk X.prog X.w H h' := fun {a h'} ha hs b ob e => by
    obtain ⟨_, _, hfree⟩ := ha
    refine (I.hok b ob e).stay (fun c w' hc q => (hs.2 c ?_).trans q) (fun _ q => q) fun _ _ q => q
    rintro rfl
    rcases hc with rfl | hc
    · rw [hfree] at e; cases e
    · rw [hfree] at hc; cases hc
  rcases hx with hk | hk
  · refine wpAny_storeName_local hk hn (fun h' hn' hs => ?_) hcls
    obtain ⟨oL, _, _, hoL, _⟩ := id hn
    refine h _ ⟨I.ok, I.os, I.bare, ⟨fun b o e n hb hx => ?_, fun b o e n hb hx => ?_, I.base.free, fun b o e hx => ?_, I.base.tups, I.base.frzs, I.base.tbls⟩, ⟨_, hn', fun j y v' e1 e2 e3 => ?_⟩, fun y c e => ?_, I.free, I.freeC, fun p hp => ?_, tracked ⟨oL, hoL, I.free⟩ hs, by simpa using I.len⟩ ⟨_, hs, .inl rfl⟩
    · exact (hs.2 b (Nat.ne_of_lt (Nat.lt_of_lt_of_le (Heap.lt_size e) I.ok.above))).trans (I.base.keep b o e n hb hx)
    · obtain ⟨sl, e1⟩ := I.base.slot b o e n hb hx
      exact ⟨sl, (hs.2 b (Nat.ne_of_lt (Nat.lt_of_lt_of_le (Heap.lt_size e) I.ok.above))).trans e1⟩
    · obtain ⟨o', e1⟩ := I.base.there b o e hx
      exact ⟨o', (hs.2 b (Nat.ne_of_lt (Nat.lt_of_lt_of_le (Heap.lt_size e) I.ok.above))).trans e1⟩
    · by_cases hj : j = i
      · subst hj
        rw [hi] at e1; cases e1
        rw [List.getElem?_set_self hiσ] at e2
        cases e2
        exact ⟨u, r, .inl ⟨hk, by simp⟩⟩
      · rw [List.getElem?_set_ne (Ne.symm hj)] at e2
        obtain ⟨u', r', q⟩ := hl j y v' e1 e2 e3
        refine ⟨u', r', ?_⟩
        rcases q with ⟨k, e⟩ | ⟨k, c, e, z⟩
        · refine .inl ⟨k, ?_⟩
          have : y ≠ x := fun e => hj (nodup_ix hN e1 (e ▸ hi))
          simp [this, e]
        · exact .inr ⟨k, c, e, z.sameBut hs (cne y c e)⟩
    · obtain ⟨w', z⟩ := I.cell y c e
      exact ⟨w', z.sameBut hs (cne y c e)⟩
    · obtain ⟨e, n, ne, nf, d⟩ := I.pin p hp
      exact ⟨(hs.2 p.1 ne).trans e, n, ne, nf, d⟩
  · have hfn : X.fn x = true := by
      rcases hf with z | z
      · exact z
      · rw [z] at hk; cases hk
    obtain ⟨c, hc⟩ := I.ok.has x (.inl hk)
    obtain ⟨w', z⟩ := I.cell x c hc
    refine wpAny_storeName_cell I.ok.kind hk hc z (fun h' hc' hs => ?_)
    obtain ⟨oc, hoc, hocd⟩ := id z
    refine h { s with heap := h' } ⟨I.ok, I.os, I.bare, ⟨fun b o e n hb hx => ?_, fun b o e n hb hx => ?_, I.base.free, fun b o e hx => ?_, I.base.tups, I.base.frzs, I.base.tbls⟩, ⟨m, hn.sameBut hs (Ne.symm (cne x c hc)), fun j y v' e1 e2 e3 => ?_⟩, fun y c' e => ?_, I.free, I.freeC, fun p hp => ?_, tracked ⟨oc, hoc, I.freeC x c hc⟩ hs, by simpa using I.len⟩ ⟨c, hs, .inr hc⟩
    · exact (hs.2 b (Nat.ne_of_lt (Nat.lt_of_lt_of_le (Heap.lt_size e) (I.ok.cab x c hfn hc)))).trans (I.base.keep b o e n hb hx)
    · obtain ⟨sl, e1⟩ := I.base.slot b o e n hb hx
      exact ⟨sl, (hs.2 b (Nat.ne_of_lt (Nat.lt_of_lt_of_le (Heap.lt_size e) (I.ok.cab x c hfn hc)))).trans e1⟩
    · obtain ⟨o', e1⟩ := I.base.there b o e hx
      exact ⟨o', (hs.2 b (Nat.ne_of_lt (Nat.lt_of_lt_of_le (Heap.lt_size e) (I.ok.cab x c hfn hc)))).trans e1⟩
    · by_cases hj : j = i
      · subst hj
        rw [hi] at e1; cases e1
        rw [List.getElem?_set_self hiσ] at e2
        cases e2
        exact ⟨u, r, .inr ⟨.inl hk, c, hc, hc'⟩⟩
      · rw [List.getElem?_set_ne (Ne.symm hj)] at e2
        obtain ⟨u', r', q⟩ := hl j y v' e1 e2 e3
        refine ⟨u', r', ?_⟩
        rcases q with q | ⟨k, c', e, z'⟩
        · exact .inl q
        · refine .inr ⟨k, c', e, z'.sameBut hs ?_⟩
          rintro rfl
          exact hj (nodup_ix hN e1 (I.ok.inj _ _ _ e hc ▸ hi))
    · by_cases hcc : c' = c
      · subst hcc; exact ⟨_, hc'⟩
      · obtain ⟨w2, z2⟩ := I.cell y c' e
        exact ⟨w2, z2.sameBut hs hcc⟩
    · obtain ⟨e, n, ne, nf, d⟩ := I.pin p hp
      refine ⟨(hs.2 p.1 ?_).trans e, n, ne, nf, d⟩
      intro q
      rw [q, hoc] at e
      have q' : oc = p.2 := Option.some.inj e
      exact d w' (by rw [← q']; exact hocd)
theorem store_ok {M : Model} {A : Around} {E : Value → Shared → Prop} {i : Nat} {x : Str} {v : V} {u : Value} {Q : Unit → Shared → Prop} (I : Inv X pins σ H s) (hN : X.N.Nodup) (hi : X.N[i]? = some x) (hx : Loc X.env.scope x) (r : RelV v u)
    (h : ∀ s', Inv X pins (σ.set i (some v)) H s' → Q () s') (hf : X.fn x = true ∨ X.env.scope.names.lookup x = some .local := by first | exact .inl rfl | exact .inr rfl | assumption) : wpAny M A (storeName X.env x u) Q E s :=
  store_ok2 I hN hi hx r (fun s' I' _ => h s' I') hf
/-- behind a call or a block, the state as it is -/
theorem Inv.call' {s' : Shared} {ch : List Addr} (I : Inv X pins σ H s) (ho : s'.os = s.os) (u : Un (frs X.stack) ch H H' s.heap s'.heap) (hok : HOk X.prog X.w H' s'.heap) (hg : AllBare s'.gens)
    (hch : ∀ b ∈ ch, (b ∈ X.ex ∨ X.s_0.heap.objs.size ≤ b) ∧ b ≠ X.env.locals ∧ (∀ x c, X.env.cells.lookup x = some c → c ≠ b) ∧ ∀ p ∈ X.pn ++ pins, p.1 ≠ b) : Inv X pins σ H' s' := by
  obtain ⟨h', g', d', t', o'⟩ := s'
  have e : o' = s.os := ho
  subst e
  exact I.call (g' := g') (t' := t') (d' := d') u hok hg hch
end

/-! ### the judgements -/
/-- an exception: its class, its own dict's address (where it has one), the abstract heap behind it -/
abbrev XK := Value → Option Addr → Hp → Prop
abbrev St := List (Option V)
abbrev VK := V → Hp → Prop
/-- an expression's reading; a test's; an argument list's -/
abbrev TE := St → Hp → VK → Prop
abbrev TT := St → Hp → (Bool → Hp → Prop) → Prop
abbrev TA := St → Hp → (List V → Hp → Prop) → Prop
/-- what is wanted behind a statement -/
structure Ends where
  nx : St → Hp → Prop
  rt : VK
  bk : St → Hp → Prop := fun _ _ => False
  ct : St → Hp → Prop := fun _ _ => False
abbrev TS := Ends → St → Hp → Prop

def EP (X : Cx) (pins : List (Addr × Obj)) (σ : St) (Q : VK) (u : Value) (s' : Shared) : Prop := ∃ v H', Inv X pins σ H' s' ∧ RelV v u ∧ Q v H'
def TP (X : Cx) (pins : List (Addr × Obj)) (σ : St) (Q : Bool → Hp → Prop) (b : Bool) (s' : Shared) : Prop := ∃ H', Inv X pins σ H' s' ∧ Q b H'
def AP (X : Cx) (pins : List (Addr × Obj)) (σ : St) (Q : List V → Hp → Prop) (us : List Value) (s' : Shared) : Prop := ∃ vs H', Inv X pins σ H' s' ∧ Vals vs us ∧ Q vs H'
def SP (X : Cx) (pins : List (Addr × Obj)) (D : Ends) (f : Flow) (s' : Shared) : Prop :=
  match f with
  | .next => ∃ σ' H', Inv X pins σ' H' s' ∧ D.nx σ' H'
  | .brk => ∃ σ' H', Inv X pins σ' H' s' ∧ D.bk σ' H'
  | .cont => ∃ σ' H', Inv X pins σ' H' s' ∧ D.ct σ' H'
  | .ret u => ∃ v σ' H', Inv X pins σ' H' s' ∧ RelV v u ∧ D.rt v H'

def PE (X : Cx) (e : Expr) (t : TE) : Prop :=
  ∀ (pins : List (Addr × Obj)) (s : Shared) (σ : St) (H : Hp) (Q : VK), Inv X pins σ H s → t σ H Q → wpAny (model X.prog X.w) X.A (eval e X.env) (EP X pins σ Q) X.xe s
def PT (X : Cx) (e : Expr) (t : TT) : Prop :=
  ∀ (pins : List (Addr × Obj)) (s : Shared) (σ : St) (H : Hp) (Q : Bool → Hp → Prop), Inv X pins σ H s → t σ H Q → wpAny (model X.prog X.w) X.A (isTrue e X.env (eval e X.env)) (TP X pins σ Q) X.xe s
/-- a test whatever its 'whole' is (and, or) -/
def PW (X : Cx) (e : Expr) (t : TT) : Prop :=
  ∀ (whole : Sem Value) (pins : List (Addr × Obj)) (s : Shared) (σ : St) (H : Hp) (Q : Bool → Hp → Prop), Inv X pins σ H s → t σ H Q → wpAny (model X.prog X.w) X.A (isTrue e X.env whole) (TP X pins σ Q) X.xe s
theorem PW.pt {X : Cx} {e : Expr} {t : TT} (h : PW X e t) : PT X e t := h _
/-- an argument list (no star), from the left -/
def PA (X : Cx) (es : List Expr) (t : TA) : Prop :=
  ∀ (pos : Pos) (pins : List (Addr × Obj)) (s : Shared) (σ : St) (H : Hp) (Q : List V → Hp → Prop), Inv X pins σ H s → t σ H Q → wpAny (model X.prog X.w) X.A (spliced (backTo pos (starEach es X.env))) (AP X pins σ Q) X.xe s
def PS (X : Cx) (st : Stmt) (t : TS) : Prop :=
  ∀ (pins : List (Addr × Obj)) (s : Shared) (σ : St) (H : Hp) (D : Ends), Inv X pins σ H s → t D σ H → wpAny (model X.prog X.w) X.A (exec st X.env) (SP X pins D) X.xe s
def PSs (X : Cx) (st : List Stmt) (t : TS) : Prop :=
  ∀ (pins : List (Addr × Obj)) (s : Shared) (σ : St) (H : Hp) (D : Ends), Inv X pins σ H s → t D σ H → wpAny (model X.prog X.w) X.A (execs st X.env) (SP X pins D) X.xe s
/-- weaken the end -/
theorem thn {α : Type} {t : Sem α} {Q Q' : α → Shared → Prop} {M : Model} {A : Around} {E : Value → Shared → Prop} {s : Shared} (h : wpAny M A t Q E s) (hQ : ∀ a s, Q a s → Q' a s) : wpAny M A t Q' E s := wpAny_mono h hQ fun _ _ x => x
end L2

namespace L2
open PySem PySem.Spec PyProof.Rows
section
variable {X : Cx}

/-! ### names and constants -/
def tVar (i : Nat) : TE := fun σ H Q => ∃ v, σ[i]? = some (some v) ∧ Q v H
def tC (v : V) : TE := fun _ H Q => Q v H
theorem pe_var {i : Nat} {x : Str} {pos : Pos} (hN : X.N[i]? = some x) (hv : Vis X.env.scope x) (hd : (x == ("__debug__" : Str)) = false := by decide) (hcd : (x == ("__classdict__" : Str)) = false := by decide) : PE X (.Name x pos) (tVar i) := by
  intro pins s σ H Q I h
  obtain ⟨v, e, h⟩ := h
  obtain ⟨m, hn, hl⟩ := I.loc
  obtain ⟨u, r, l⟩ := hl i x v hN e hv
  have fin : EP X pins σ Q u s := ⟨v, H, I, r, h⟩
  rcases l with ⟨hk, hm⟩ | ⟨hk, c, hc, hcell⟩
  · exact wpAny_Name (wpAny_loadName_local I.ok.kind hk hn hm fin) hd
  · rcases hk with hk | hk
    · exact wpAny_Name (wpAny_loadName_cell I.ok.kind hk hc hcell fin) hd
    · exact wpAny_Name (wpAny_loadName_free I.ok.kind hk hc hcell fin hcd) hd
theorem pe_int {i j pos} : PE X (.Constant (.int i) j pos) (tC (.int i)) := fun _ _ _ H _ I h => wpAny_Constant_int ⟨.int i, H, I.tok _, ⟨_, rfl⟩, h⟩
theorem pe_bl {b j pos} : PE X (.Constant (.bool b) j pos) (tC (.bl b)) := fun _ _ _ H _ I h => Constant_bool ⟨.bl b, H, I, rfl, h⟩
theorem pe_non {j pos} : PE X (.Constant .none j pos) (tC .non) := fun _ _ _ H _ I h => Constant_none ⟨.non, H, I, rfl, h⟩
/-- a global name of the def -/
def Gl (X : Cx) (x : Str) : Prop := X.env.kindOf x = some .globalImplicit
theorem ld_glob {E : Value → Shared → Prop} {pins : List (Addr × Obj)} {s : Shared} {σ : St} {H : Hp} {x : Str} {u : Value} {pos : Pos} {Q : Value → Shared → Prop} (I : Inv X pins σ H s) (hg : Gl X x) (hm : X.mg x = some u) (h : Q u s)
    (hd : (x == ("__debug__" : Str)) = false := by decide) : wpAny (model X.prog X.w) X.A (eval (.Name x pos) X.env) Q E s :=
  Calls.Name_function_global I.ok.kind hg (Calls.loadGlobal_global (by rw [I.ok.glob]; exact I.mod.glob.keeps I.bk) hm h) hd
theorem ld_blt {E : Value → Shared → Prop} {pins : List (Addr × Obj)} {s : Shared} {σ : St} {H : Hp} {x : Str} {u : Value} {pos : Pos} {Q : Value → Shared → Prop} (I : Inv X pins σ H s) (hg : Gl X x) (hm : X.mg x = none) (hv : bootBuiltins x = some u) (h : Q u s)
    (hn : x ≠ "__name__" := by decide) (hd : (x == ("__debug__" : Str)) = false := by decide) : wpAny (model X.prog X.w) X.A (eval (.Name x pos) X.env) Q E s := by
  obtain ⟨mb, h1, h2⟩ := I.mod.blt
  exact Calls.Name_function_global I.ok.kind hg (Calls.loadGlobal_builtin (by rw [I.ok.glob]; exact I.mod.glob.keeps I.bk) hm (by rw [I.ok.blt]; exact h1.keeps I.bk) ((h2 x hn).trans hv) h) hd
/-- a module's constant, a class, a function, as a value -/
theorem pe_glob {x : Str} {v : V} {u : Value} {pos : Pos} (hg : Gl X x) (hm : X.mg x = some u) (r : RelV v u) (hd : (x == ("__debug__" : Str)) = false := by decide) : PE X (.Name x pos) (tC v) :=
  fun _ _ _ H _ I h => ld_glob I hg hm ⟨v, H, I, r, h⟩ hd
/-! ### arithmetic -/
variable {a b : Expr} {ta tb : TE} {pos : Pos}
/-! ### comparisons -/
def PC (X : Cx) (op : CmpOp) (a b : Expr) (t : TE) : Prop :=
  ∀ (pins : List (Addr × Obj)) (s : Shared) (σ : St) (H : Hp) (Q : VK), Inv X pins σ H s → t σ H Q →
    wpAny (model X.prog X.w) X.A (eval a X.env) (fun v s₁ => wpAny (model X.prog X.w) X.A (eval b X.env) (fun u s₂ => wpAny (model X.prog X.w) X.A (compareOp op v u) (EP X pins σ Q) X.xe s₂) X.xe s₁) X.xe s
theorem nobehind (b : Expr) {op : CmpOp} (h : op ≠ .In) (h2 : op ≠ .NotIn) : behindInMarks op b = false := by
  have e1 : (op == CmpOp.In) = false := by cases op <;> first | rfl | exact absurd rfl h
  have e2 : (op == CmpOp.NotIn) = false := by cases op <;> first | rfl | exact absurd rfl h2
  cases b <;> simp [behindInMarks, e1, e2]
/-- is None -/
def tIsN (ta : TE) : TE := fun σ H Q => ta σ H fun x H1 => Q (.bl (decide (x = .non))) H1
theorem RelV.none_iff {x : V} {v : Value} (r : RelV x v) : (v == Value.none) = decide (x = .non) := by
  cases x with
  | non => cases r; rfl
  | bl _ => cases r; rfl
  | int _ => obtain ⟨t, rfl⟩ := r; rfl
  | str _ => obtain ⟨t, rfl⟩ := r; rfl
  | byt _ => obtain ⟨t, rfl⟩ := r; rfl
  | flt _ => obtain ⟨t, rfl⟩ := r; rfl
  | ref _ => cases r; rfl
  | ty _ => cases r; rfl
theorem pc_isN {j pos'} (ha : PE X a ta) : PC X .Is a (.Constant .none j pos') (tIsN ta) := by
  intro pins s σ H Q I h
  refine thn (ha pins s σ H _ I h) fun v s1 ⟨x, H1, I1, r1, q1⟩ => ?_
  exact Constant_none (is_none_gen ⟨.bl _, H1, I1, by rw [r1.none_iff]; rfl, q1⟩)
/-- a comparison as a value, as a test -/
def tB (t : TE) : TT := fun σ H Q => t σ H fun x H1 => ∃ c, x = .bl c ∧ Q c H1
theorem pt_cmp {op : CmpOp} {t : TE} (h : PC X op a b t) (h1 : behindInMarks op b = false := by first | exact nobehind _ (by decide) (by decide) | rfl) : PT X (.Compare a [op] [b] pos) (tB t) := by
  intro pins s σ H Q I hw
  refine wpAny_isTrue_Compare1 (thn (h pins s σ H _ I hw) fun v s1 h1 => thn h1 fun u s2 h2 => thn h2 fun c s3 ⟨x, H1, I1, r1, q1⟩ => ?_) h1
  obtain ⟨d, rfl, q⟩ := q1
  cases r1
  exact wpAny_truthy_bool ⟨H1, I1, q⟩
/-- an expression whose value is a bool, as a test -/
theorem pt_val {e : Expr} {t : TE} (h : PE X e t) (he : ∀ whole, isTrue e X.env whole = (do let v ← whole; standAt e.pos; holding [v] (truthy v)) := by intro _; rfl) : PT X e (tB t) := by
  intro pins s σ H Q I hw
  refine isTrue_plain (thn (h pins s σ H _ I hw) fun v s1 ⟨x, H1, I1, r1, q1⟩ => ?_) (he _)
  obtain ⟨d, rfl, q⟩ := q1
  cases r1
  exact wpAny_truthy_bool ⟨H1, I1, q⟩

/-! ### and, or, not -/
variable {tA tB' : TT} {rest : List Expr}
def tOr (t u : TT) : TT := fun σ H Q => t σ H fun c H1 => if c = true then Q true H1 else u σ H1 Q
def tNot (t : TT) : TT := fun σ H Q => t σ H fun c H1 => Q (!c) H1
theorem pw_or1 (ha : PT X a tA) : PW X (.BoolOp .Or [a] pos) tA := by
  intro wh pins s σ H Q I h
  refine isTrue_or (thn (ha pins s σ H Q I h) fun c s1 e => ?_)
  cases c with
  | false => exact isTrue_or_nil e
  | true => exact e
theorem pw_or (ha : PT X a tA) (hb : PW X (.BoolOp .Or (b :: rest) pos) tB') : PW X (.BoolOp .Or (a :: b :: rest) pos) (tOr tA tB') := by
  intro wh pins s σ H Q I h
  refine isTrue_or (thn (ha pins s σ H _ I h) fun c s1 ⟨H1, I1, q1⟩ => ?_)
  cases c with
  | true => exact ⟨H1, I1, q1⟩
  | false => exact hb wh pins s1 σ H1 Q I1 q1
theorem pt_not (ha : PT X a tA) : PT X (.UnaryOp .Not a pos) (tNot tA) := by
  intro pins s σ H Q I h
  exact isTrue_not (ha pins s σ H (fun c H1 => Q (!c) H1) I h)
/-- .. as values (bools) -/
def tAndV (ta tb : TE) : TE := fun σ H Q => ta σ H fun x H1 => ∃ c, x = .bl c ∧ if c = true then tb σ H1 Q else Q (.bl false) H1
def tOrV (ta tb : TE) : TE := fun σ H Q => ta σ H fun x H1 => ∃ c, x = .bl c ∧ if c = true then Q (.bl true) H1 else tb σ H1 Q
theorem pe_one {op} {t : TE} (h : PE X a t) : PE X (.BoolOp op [a] pos) t := fun pins s σ H Q I hw => BoolOp_one (h pins s σ H Q I hw)
theorem pe_and (ha : PE X a ta) (hb : PE X (.BoolOp .And (b :: rest) pos) tb) : PE X (.BoolOp .And (a :: b :: rest) pos) (tAndV ta tb) := by
  intro pins s σ H Q I h
  refine BoolOp_and (thn (ha pins s σ H _ I h) fun v s1 ⟨x, H1, I1, r1, q1⟩ => ?_)
  obtain ⟨c, rfl, q1⟩ := q1
  cases r1
  refine wpAny_truthy_bool ?_
  cases c with
  | true => exact hb pins s1 σ H1 Q I1 q1
  | false => exact ⟨.bl false, H1, I1, rfl, q1⟩
theorem pe_or (ha : PE X a ta) (hb : PE X (.BoolOp .Or (b :: rest) pos) tb) : PE X (.BoolOp .Or (a :: b :: rest) pos) (tOrV ta tb) := by
  intro pins s σ H Q I h
  refine BoolOp_or (thn (ha pins s σ H _ I h) fun v s1 ⟨x, H1, I1, r1, q1⟩ => ?_)
  obtain ⟨c, rfl, q1⟩ := q1
  cases r1
  refine wpAny_truthy_bool ?_
  cases c with
  | false => exact hb pins s1 σ H1 Q I1 q1
  | true => exact ⟨.bl true, H1, I1, rfl, q1⟩
/-- a if t else b -/
def tIf (t : TT) (ta tb : TE) : TE := fun σ H Q => t σ H fun c H1 => if c = true then ta σ H1 Q else tb σ H1 Q
theorem pe_ifExp {c : Expr} (hc : PT X c tA) (ha : PE X a ta) (hb : PE X b tb) : PE X (.IfExp c a b pos) (tIf tA ta tb) := by
  intro pins s σ H Q I h
  refine wpAny_IfExp (thn (hc pins s σ H _ I h) fun d s1 ⟨H1, I1, q1⟩ => ?_)
  cases d with
  | true => exact ha pins s1 σ H1 Q I1 q1
  | false => exact hb pins s1 σ H1 Q I1 q1
end
end L2

namespace L2
open PySem PySem.Spec PyProof.Rows

/-! ### a list, a tuple that is read: tracked, frozen, or an object of the module -/
def SqL (K : PySem.W.Frag) (H : Hp) (a : Addr) (xs : List V) : Prop :=
  Rd H a (.lst xs) ∨
    ∃ (o : Obj) (its : Array Value) (n : Nat), K.lookup a = some o ∧ o.cls = .type "list" ∧ o.dict = none ∧ o.data = .seq its n ∧ its.size ≤ sizeLine ∧ Vals xs its.toList
def SqT (K : PySem.W.Frag) (H : Hp) (a : Addr) (xs : List V) : Prop :=
  Rd H a (.tup xs) ∨
    ∃ (o : Obj) (its : Array Value) (n : Nat), K.lookup a = some o ∧ o.cls = .type "tuple" ∧ o.data = .seq its n ∧ its.size ≤ sizeLine ∧ Vals xs its.toList
def absV : Value → Option V
  | .none => some .non
  | .bool b => some (.bl b)
  | .int i _ => some (.int i)
  | .str x _ => some (.str x)
  | .bytes b _ => some (.byt b)
  | .float b _ => some (.flt b)
  | .ref a => some (.ref a)
  | .type n => some (.ty n)
  | _ => none
theorem RelV.abs {x : V} {u : Value} (r : RelV x u) : absV u = some x := by
  cases x with
  | non => cases r; rfl
  | bl _ => cases r; rfl
  | int _ => obtain ⟨t, rfl⟩ := r; rfl
  | str _ => obtain ⟨t, rfl⟩ := r; rfl
  | byt _ => obtain ⟨t, rfl⟩ := r; rfl
  | flt _ => obtain ⟨t, rfl⟩ := r; rfl
  | ref _ => cases r; rfl
  | ty _ => cases r; rfl
theorem RelV.inj {x y : V} {u : Value} (r : RelV x u) (q : RelV y u) : x = y := Option.some.inj (r.abs.symm.trans q.abs)
theorem Vals.inj : ∀ {xs ys : List V} {us : List Value}, Vals xs us → Vals ys us → xs = ys
  | _, _, _, .nil, .nil => rfl
  | _, _, _, .cons r t, .cons r' t' => by rw [r.inj r', Vals.inj t t']
section
variable {X : Cx} {pins : List (Addr × Obj)} {σ : St} {H : Hp} {s : Shared} {a : Addr} {xs ys : List V}
theorem SqL.of {K : PySem.W.Frag} (h : H a = some (.lst xs)) : SqL K H a xs := .inl (.inl h)
theorem SqT.of {K : PySem.W.Frag} (h : H a = some (.tup xs)) : SqT K H a xs := .inl (.inl h)
theorem Inv.list (I : Inv X pins σ H s) (h : SqL X.K H a xs) : ∃ its : List Value, Vals xs its ∧ PlainL s.heap a its.toArray ∧ xs.length ≤ sizeLine := by
  rcases h with h | ⟨o, its, n, hk, hc, hd, hs, hz, r⟩
  · obtain ⟨z, its, n, r, e⟩ := h.ok I.hok
    exact ⟨its, r, ⟨_, n, e, rfl, rfl, rfl⟩, z⟩
  · refine ⟨its.toList, r, ⟨o, n, I.kIn a o hk, hc, hd, by simpa using hs⟩, ?_⟩
    have e := r.length
    simp only [Array.length_toList] at e
    omega
theorem Inv.tuple (I : Inv X pins σ H s) (h : SqT X.K H a xs) : ∃ its : List Value, Vals xs its ∧ IsTup s.heap a its.toArray ∧ xs.length ≤ sizeLine := by
  rcases h with h | ⟨o, its, n, hk, hc, hs, hz, r⟩
  · obtain ⟨z, its, r, p⟩ := h.ok I.hok
    exact ⟨its, r, p, z⟩
  · refine ⟨its.toList, r, ⟨o, I.kIn a o hk, hc, n, by simpa using hs⟩, ?_⟩
    have e := r.length
    simp only [Array.length_toList] at e
    omega
theorem Inv.list_inj (I : Inv X pins σ H s) (h : SqL X.K H a xs) (h' : SqL X.K H a ys) : xs = ys := by
  obtain ⟨its, r, ⟨o, n, e, _, _, d⟩, _⟩ := I.list h
  obtain ⟨its', r', ⟨o', n', e', _, _, d'⟩, _⟩ := I.list h'
  rw [e] at e'; cases e'
  rw [d] at d'
  injection d' with d1 _
  have : its = its' := by simpa using congrArg Array.toList d1
  subst this
  exact r.inj r'
end

/-! ### another wish about exceptions -/
abbrev Cx.wish (X : Cx) (E : Value → Shared → Prop) : Cx := { X with xe := E }
/-- no exception leaves -/
abbrev Cx.nox (X : Cx) : Cx := X.wish fun _ _ => False
theorem Cx.Ok.wish {X : Cx} (ok : X.Ok) (E : Value → Shared → Prop) : (X.wish E).Ok :=
  ⟨ok.mod, ok.kind, ok.glob, ok.blt, ok.above, ok.inj, ok.has, ok.cab, ok.hd, ok.frames, ok.stk, ok.exf, ok.bs, ok.bsz, ok.noex, ok.exfs, ok.funs, ok.frf⟩
theorem Cx.Ok.unwish {X : Cx} {E : Value → Shared → Prop} (ok : (X.wish E).Ok) : X.Ok :=
  ⟨ok.mod, ok.kind, ok.glob, ok.blt, ok.above, ok.inj, ok.has, ok.cab, ok.hd, ok.frames, ok.stk, ok.exf, ok.bs, ok.bsz, ok.noex, ok.exfs, ok.funs, ok.frf⟩
section
variable {X : Cx} {pins : List (Addr × Obj)} {σ : St} {H : Hp} {s : Shared} {E : Value → Shared → Prop}
theorem Inv.wish (I : Inv X pins σ H s) (E : Value → Shared → Prop) : Inv (X.wish E) pins σ H s := ⟨I.ok.wish E, I.os, I.bare, I.base, I.loc, I.cell, I.free, I.freeC, I.pin, I.hok, I.len⟩
theorem Inv.unwish (I : Inv (X.wish E) pins σ H s) : Inv X pins σ H s := ⟨I.ok.unwish, I.os, I.bare, I.base, I.loc, I.cell, I.free, I.freeC, I.pin, I.hok, I.len⟩
theorem SP.unwish {D : Ends} {f : Flow} {s' : Shared} (h : SP (X.wish E) pins D f s') : SP X pins D f s' := by
  cases f with
  | next => obtain ⟨σ', H', I, q⟩ := h; exact ⟨σ', H', I.unwish, q⟩
  | brk => obtain ⟨σ', H', I, q⟩ := h; exact ⟨σ', H', I.unwish, q⟩
  | cont => obtain ⟨σ', H', I, q⟩ := h; exact ⟨σ', H', I.unwish, q⟩
  | ret u => obtain ⟨v, σ', H', I, r, q⟩ := h; exact ⟨v, σ', H', I.unwish, r, q⟩
theorem PSs.nox {st : List Stmt} {t : TS} (h : PSs X.nox st t) : PSs X st t := fun pins s σ H D I hw =>
  wpAny_mono (h pins s σ H D (I.wish _) hw) (fun _ _ q => q.unwish) fun _ _ z => False.elim z
end

/-! ### blocks and small statements -/
section
variable {X : Cx} {st : Stmt} {rest : List Stmt} {t u : TS} {e : Expr} {te : TE} {pos : Pos}
def tNext : TS := fun D σ H => D.nx σ H
def tSeq (t u : TS) : TS := fun D σ H => t { D with nx := u D } σ H
theorem pss_nil : PSs X [] tNext := fun _ _ σ H _ I h => wpAny_execs_nil ⟨σ, H, I, h⟩
theorem pss_cons (h1 : PS X st t) (h2 : PSs X rest u) : PSs X (st :: rest) (tSeq t u) := by
  intro pins s σ H D I h
  refine wpAny_execs_cons (thn (h1 pins s σ H { D with nx := u D } I h) fun f s1 q => ?_)
  cases f with
  | next =>
    obtain ⟨σ', H', I', q⟩ := q
    exact h2 pins s1 σ' H' D I' q
  | ret v => exact q
  | brk => exact q
  | cont => exact q
theorem pss_one (h1 : PS X st t) : PSs X [st] t := by
  intro pins s σ H D I h
  refine wpAny_execs_cons (thn (h1 pins s σ H D I h) fun f s1 q => ?_)
  cases f with
  | next => exact wpAny_execs_nil q
  | ret v => exact q
  | brk => exact q
  | cont => exact q
/-- in a def's body nothing is shown -/
theorem Inv.quiet {pins : List (Addr × Obj)} {σ : St} {H : Hp} {s : Shared} (I : Inv X pins σ H s) : interactive X.env = false := by simp [interactive, I.ok.kind]
/-- an expression whose value is dropped -/
def tDrop (te : TE) : TS := fun D σ H => te σ H fun _ H1 => D.nx σ H1
theorem ps_expr (he : PE X e te) (hs : swapsWith e none pos.line X.env = pure false := by rfl) : PS X (.Expr e pos) (tDrop te) := by
  intro pins s σ H D I h
  exact wpAny_Expr_any (thn (he pins s σ H _ I h) fun v s1 ⟨x, H1, I1, r1, q1⟩ => ⟨σ, H1, I1, q1⟩) I.quiet hs
def tRet (te : TE) : TS := fun D σ H => te σ H D.rt
theorem ps_ret (he : PE X e te) : PS X (.Return (some e) pos) (tRet te) := by
  intro pins s σ H D I h
  exact wpAny_Return_some (thn (he pins s σ H _ I h) fun v s1 ⟨x, H1, I1, r1, q1⟩ => ⟨x, σ, H1, I1, r1, q1⟩)
def tIfS (c : TT) (t u : TS) : TS := fun D σ H => c σ H fun b H1 => if b = true then t D σ H1 else u D σ H1
theorem ps_if {c : Expr} {a b : List Stmt} {tc : TT} (hc : PT X c tc) (ha : PSs X a t) (hb : PSs X b u) : PS X (.If c a b pos) (tIfS tc t u) := by
  intro pins s σ H D I h
  refine wpAny_If (thn (hc pins s σ H _ I h) fun d s1 ⟨H1, I1, q1⟩ => ?_)
  cases d with
  | true => exact ha pins s1 σ H1 D I1 q1
  | false => exact hb pins s1 σ H1 D I1 q1
end

/-! ### targets -/
abbrev TG := V → St → Hp → (St → Hp → Prop) → Prop
abbrev TGs := List V → St → Hp → (St → Hp → Prop) → Prop
def PG (X : Cx) (target : Expr) (t : TG) : Prop :=
  ∀ (pins : List (Addr × Obj)) (s : Shared) (σ : St) (H : Hp) (v : V) (u : Value) (Q : St → Hp → Prop), Inv X pins σ H s → RelV v u → t v σ H Q →
    wpAny (model X.prog X.w) X.A (assign target X.env u) (fun _ s' => ∃ σ' H', Inv X pins σ' H' s' ∧ Q σ' H') X.xe s
/-- several targets, one after another -/
def PGs (X : Cx) (ts : List Expr) (t : TGs) : Prop :=
  ∀ (pins : List (Addr × Obj)) (s : Shared) (σ : St) (H : Hp) (vs : List V) (us : List Value) (Q : St → Hp → Prop), Inv X pins σ H s → Vals vs us → t vs σ H Q →
    wpAny (model X.prog X.w) X.A (assignInOrder ((assignEach ts X.env).map (·.2)) us) (fun _ s' => ∃ σ' H', Inv X pins σ' H' s' ∧ Q σ' H') X.xe s
/-- o[i] = v, by values -/
abbrev TSet := V → V → V → Hp → (Hp → Prop) → Prop
def PSet (X : Cx) (t : TSet) : Prop :=
  ∀ (pins : List (Addr × Obj)) (s : Shared) (σ : St) (H : Hp) (o i v : V) (ov iv u : Value) (Q : Hp → Prop), Inv X pins σ H s → RelV o ov → RelV i iv → RelV v u → t o i v H Q →
    wpAny (model X.prog X.w) X.A (setItem ov iv u) (fun _ s' => ∃ H', Inv X pins σ H' s' ∧ Q H') X.xe s
section
variable {X : Cx} {pos : Pos}
def gName (i : Nat) : TG := fun v σ H Q => Q (σ.set i (some v)) H
theorem pg_name {i : Nat} {x : Str} (hN : X.N.Nodup) (hi : X.N[i]? = some x) (hx : Loc X.env.scope x) (hf : X.fn x = true ∨ X.env.scope.names.lookup x = some .local := by first | exact .inl rfl | exact .inr rfl | assumption) : PG X (.Name x pos) (gName i) := by
  intro pins s σ H v u Q I r h
  exact wpAny_assign_Name (store_ok I hN hi hx r (fun s' I' => ⟨_, H, I', h⟩) hf)
def gNil : TGs := fun vs σ H Q => vs = [] ∧ Q σ H
def gCons (t : TG) (u : TGs) : TGs := fun vs σ H Q => ∃ v r, vs = v :: r ∧ t v σ H fun σ' H' => u r σ' H' Q
theorem pgs_nil : PGs X [] gNil := by
  intro pins s σ H vs us Q I r h
  obtain ⟨e, h⟩ := h
  subst e
  cases r
  exact assignInOrder_nil ⟨σ, H, I, h⟩
theorem pgs_cons {e : Expr} {es : List Expr} {t : TG} {u : TGs} (h1 : PG X e t) (h2 : PGs X es u)
    (hs : (assignEach (e :: es) X.env).map (·.2) = assign e X.env :: (assignEach es X.env).map (·.2) := by rfl) : PGs X (e :: es) (gCons t u) := by
  intro pins s σ H vs us Q I r h
  obtain ⟨v, vr, e1, h⟩ := h
  subst e1
  cases r with
  | cons r rr =>
    rw [hs]
    refine assignInOrder_cons (thn (h1 pins s σ H _ _ _ I r h) fun _ s1 ⟨σ1, H1, I1, q1⟩ => ?_)
    exact h2 pins s1 σ1 H1 _ _ Q I1 rr q1
/-- (a, b, ..) = a tuple of that length -/
def gTup (K : PySem.W.Frag) (n : Nat) (t : TGs) : TG := fun v σ H Q => ∃ a xs, v = .ref a ∧ SqT K H a xs ∧ xs.length = n ∧ t xs σ H Q
theorem pg_tup {es : List Expr} {k : Nat} {t : TGs} {n : Nat} (hc : X.calm = true) (h : PGs X es t)
    (hn : (assignEach es X.env).length = n := by rfl) (hst : (assignEach es X.env).findIdx? (·.1) = none := by rfl) : PG X (.Tuple es k pos) (gTup X.K n t) := by
  intro pins s σ H v u Q I r hw
  obtain ⟨a, xs, e1, hq, hl, hw⟩ := hw
  subst e1
  cases r
  obtain ⟨its, rv, ht, hz⟩ := I.tuple hq
  refine assign_Tuple_tuple (I.ok.hd hc) ht (by simp [hn, ← hl, rv.length]) hst fun h' hx => ?_
  have I1 : Inv X pins σ H { s with heap := h' } := I.kept (t' := s.toks) fun b o e => hx b o (Nat.ne_of_lt (Heap.lt_size e)) e
  exact h pins _ σ H xs _ Q I1 (by simpa using rv) hw
/-- o[i] = .. -/
def gSub (to ti : TE) (t : TSet) : TG := fun v σ H Q => to σ H fun o H1 => ti σ H1 fun i H2 => t o i v H2 fun H3 => Q σ H3
theorem pg_sub {o i : Expr} {to ti : TE} {t : TSet} (ho : PE X o to) (hi : PE X i ti) (hs : PSet X t)
    (ha : ∀ v, assign (.Subscript o i pos) X.env v = (do
      let ov ← holding [v] (eval o X.env)
      let iv ← holding [v, ov] (eval i X.env)
      standAt pos
      holding [v, ov, iv] (setItem ov iv v)
      release [v, ov, iv] []) := by intro _; rfl) : PG X (.Subscript o i pos) (gSub to ti t) := by
  intro pins s σ H v u Q I r h
  rw [ha]
  refine wpAny_bind (wpAny_holding (thn (ho pins s σ H _ I h) fun ov s1 ⟨x, H1, I1, r1, q1⟩ => ?_))
  refine wpAny_bind (wpAny_holding (thn (hi pins s1 σ H1 _ I1 q1) fun iv s2 ⟨y, H2, I2, r2, q2⟩ => ?_))
  refine wpAny_bind (wpAny_standAt (wpAny_bind (wpAny_holding (thn (hs pins s2 σ H2 x y v ov iv u _ I2 r1 r2 r q2) fun _ s3 ⟨H3, I3, q3⟩ => ?_))))
  exact wpAny_release ⟨σ, H3, I3, q3⟩
/-- target = value -/
def tAsg (te : TE) (g : TG) : TS := fun D σ H => te σ H fun x H1 => g x σ H1 D.nx
theorem ps_asg {tg e : Expr} {te : TE} {g : TG} (he : PE X e te) (hg : PG X tg g) (hs : swapsWithSole [tg] e pos.line X.env = pure false := by rfl) (hw : swappedStores [tg] e X.env = pure none := by rfl)
    (h1 : (assignEach [tg] X.env).map (·.2) = [assign tg X.env] := by rfl) : PS X (.Assign [tg] e pos) (tAsg te g) := by
  intro pins s σ H D I h
  refine wpAny_Assign_stores (thn (he pins s σ H _ I h) fun v s1 ⟨x, H1, I1, r1, q1⟩ => ?_) hs hw
  rw [h1]
  exact thn (hg pins s1 σ H1 x v _ I1 r1 q1) fun _ s2 q => q
/-- name = value -/
theorem ps_set {i : Nat} {x : Str} {e : Expr} {te : TE} {pos' : Pos} (hN : X.N.Nodup) (hi : X.N[i]? = some x) (hx : Loc X.env.scope x) (he : PE X e te) (hs : swapsWith e (some (.Name x pos')) pos.line X.env = pure false := by rfl) (hf : X.fn x = true ∨ X.env.scope.names.lookup x = some .local := by first | exact .inl rfl | exact .inr rfl | assumption) :
    PS X (.Assign [.Name x pos'] e pos) (tAsg te (gName i)) := by
  intro pins s σ H D I h
  refine wpAny_Assign_Name (thn (he pins s σ H _ I h) fun v s1 ⟨y, H1, I1, r1, q1⟩ => ?_) hs
  exact store_ok I1 hN hi hx r1 (fun s2 I2 => ⟨_, H1, I2, q1⟩) hf
end

/-! ### while -/
section
variable {X : Cx} {pos : Pos}
end

/-! ### what a loop or a comprehension walks -/
/-- at turn i: it yields x (the heap may grow), or it stops -/
structure It where
  go : Nat → Hp → Prop
  yld : Nat → Hp → V → Hp → Prop
  stop : Nat → Hp → Prop
/-- the iterator's own objects may turn: they are not the frame's, not pinned, younger than the entry (or a comprehension's own) -/
def FpOk (X : Cx) (pins : List (Addr × Obj)) (H : Hp) (b : Addr) : Prop :=
  H b = none ∧ b ≠ X.env.locals ∧ b ∉ X.fs ∧ (b ∈ X.ex ∨ X.s_0.heap.objs.size ≤ b) ∧ (∀ x c, X.env.cells.lookup x = some c → c ≠ b) ∧ ∀ p ∈ X.pn ++ pins, p.1 ≠ b
theorem Inv.fpOk {X : Cx} {pins : List (Addr × Obj)} {σ : St} {H H' : Hp} {s : Shared} {b : Addr} (I : Inv X pins σ H s) (hb : s.heap.objs.size ≤ b) (hn : H' b = none) : FpOk X pins H' b := by
  refine ⟨hn, Nat.ne_of_gt (Nat.lt_of_lt_of_le I.lt hb), I.nofs hb, .inr (Nat.le_trans I.sz hb), fun x c e z => ?_, fun p hp z => ?_⟩
  · obtain ⟨v, q⟩ := I.cell x c e
    exact absurd (Nat.lt_of_lt_of_le q.lt (by rw [z]; exact hb)) (Nat.lt_irrefl _)
  · exact absurd (Nat.lt_of_lt_of_le (Heap.lt_size (I.pin p hp).1) (by rw [z]; exact hb)) (Nat.lt_irrefl _)
structure Turn (P : Program) (w : World) (K : PySem.W.Frag) (tg : Expr) (J : It) (fp : List Addr) (it : Addr) (tn : Nat → Heap → Prop) : Prop where
  mem : it ∈ fp
  obj : ∀ i h, tn i h → ∀ b ∈ fp, ∃ o, h.get? b = some o ∧ ∀ v, o.data ≠ .cell v
  keep : ∀ i h h', tn i h → (∀ b ∈ fp, ∀ o, h.get? b = some o → h'.get? b = some o) → tn i h'
  item : ∀ (X : Cx), X.prog = P → X.w = w → X.K = K → X.calm = true → ∀ (i : Nat) (pins : List (Addr × Obj)) (s : Shared) (σ : St) (H : Hp) (E : Value → Shared → Prop), Inv X pins σ H s → (∀ b ∈ fp, FpOk X pins H b) → tn i s.heap → J.go i H →
    wpAny (model P w) X.A (pyNext (.ref it)) (fun r s1 => ∃ u, r = some u ∧
      wpAny (model P w) X.A (letOwnedTupleGo tg (.ref it) u) (fun _ s2 => ∃ x H', Inv X pins σ H' s2 ∧ RelV x u ∧ J.yld i H x H' ∧ tn (i + 1) s2.heap ∧ ∀ b ∈ fp, H' b = none) E s1) E s
  done : ∀ (X : Cx), X.prog = P → X.w = w → X.K = K → X.calm = true → ∀ (i : Nat) (pins : List (Addr × Obj)) (s : Shared) (σ : St) (H : Hp) (E : Value → Shared → Prop), Inv X pins σ H s → (∀ b ∈ fp, FpOk X pins H b) → tn i s.heap → J.stop i H →
    wpAny (model P w) X.A (pyNext (.ref it)) (fun r s1 => r = none ∧ Inv X pins σ H s1) E s
  self : ∀ (A : Around) (i : Nat) (s : Shared) (Q : Value → Shared → Prop) (E : Value → Shared → Prop), tn i s.heap → Q (.ref it) s → wpAny (model P w) A (pyIter (.ref it)) Q E s
abbrev TI := St → Hp → (It → Hp → Prop) → Prop
/-- an iterator has come -/
def PIE (X : Cx) (pins : List (Addr × Obj)) (σ : St) (tg : Expr) (R : It → Hp → Prop) (itv : Value) (s2 : Shared) : Prop :=
  ∃ (it : Addr) (fp : List Addr) (tn : Nat → Heap → Prop) (J : It) (H' : Hp), itv = .ref it ∧ Inv X pins σ H' s2 ∧ Turn X.prog X.w X.K tg J fp it tn ∧ tn 0 s2.heap ∧ (∀ b ∈ fp, FpOk X pins H' b) ∧ R J H'
def PI (X : Cx) (tg iter : Expr) (wi : TI) : Prop :=
  ∀ (pins : List (Addr × Obj)) (s : Shared) (σ : St) (H : Hp) (R : It → Hp → Prop), Inv X pins σ H s → wi σ H R →
    wpAny (model X.prog X.w) X.A (eval iter X.env) (fun v s1 => wpAny (model X.prog X.w) X.A (pyIter v) (PIE X pins σ tg R) X.xe s1) X.xe s

/-- the step ahead of the store is nothing for an iterator that keeps no tuple -/
theorem go_of {M : Model} {A : Around} {E : Value → Shared → Prop} {s : Shared} {tg : Expr} {it : Addr} {u : Value} {o : Obj} {n : String} {vs : Array Value} {Q : Unit → Shared → Prop} (ho : s.heap.get? it = some o) (hc : o.cls = .type n) (hd : o.data = .fields vs)
    (hn : ["enumerate", "zip", "dict_itemiterator", "dict_reverseitemiterator", "odict_iterator", "itertools.zip_longest", "itertools.pairwise"].contains n = false) (hQ : Q () s) : wpAny M A (letOwnedTupleGo tg (.ref it) u) Q E s := by
  unfold letOwnedTupleGo
  cases tg <;> first
    | exact wpAny_pure hQ
    | (cases u <;> first
        | exact wpAny_pure hQ
        | (refine wpAny_bind (wpAny_load ho ?_)
           rw [hc, hd]
           show wpAny M A (if (["enumerate", "zip", "dict_itemiterator", "dict_reverseitemiterator", "odict_iterator", "itertools.zip_longest", "itertools.pairwise"].contains n && vs[0]? == some (rawInt _)) = true then _ else _) Q E s
           rw [if_neg (by intro h; rw [hn, Bool.false_and] at h; cases h)]
           exact wpAny_pure hQ))

/-- the list at a, as it stands at each turn (a loop may append to it) -/
def Itl (K : PySem.W.Frag) (a : Addr) : It :=
  ⟨fun i H => ∃ xs x, SqL K H a xs ∧ xs[i]? = some x, fun i H x H' => H' = H ∧ ∀ xs, SqL K H a xs → xs[i]? = some x, fun i H => ∃ xs, SqL K H a xs ∧ xs.length ≤ i⟩
/-- lo, lo + 1, .. (n of them) -/
def Itr (lo : Int) (n : Nat) : It := ⟨fun i _ => i < n, fun i H x H' => H' = H ∧ x = .int (lo + i), fun i _ => n ≤ i⟩
theorem turn_list {P : Program} {w : World} {K : PySem.W.Frag} {tg : Expr} (a it : Addr) : Turn P w K tg (Itl K a) [it] it (fun i h => h.IsListIter it a i) where
  mem := by simp
  obj := fun i h st b hb => by
    have e : b = it := by simpa using hb
    subst e
    obtain ⟨o, e, c, d⟩ := st
    exact ⟨o, e, fun v z => by rw [d] at z; cases z⟩
  keep := fun i h h' st k => st.at fun o e => k it (by simp) o e
  item := by
    intro X hP hw hK hc i pins s σ H E I hf st hg
    subst hP hw hK
    obtain ⟨xs, x, hq, hx⟩ := hg
    obtain ⟨its, rv, p, hz⟩ := I.list hq
    obtain ⟨u, hu, ru⟩ := rv.get hx
    obtain ⟨f0, f1, f2, f3, f4, f5⟩ := hf it (by simp)
    refine wpAny_pyNext_list_item st p.isList (x := u) (by simpa using hu) fun h' st' sb => ?_
    have I1 : Inv X pins σ H { s with heap := h' } := I.turned (t' := s.toks) (fun b o hb e => (sb.2 b hb).trans e) f0 f1 f3 f4 f5
    obtain ⟨o, e, c, d⟩ := id st'
    exact ⟨u, rfl, go_of (s := { s with heap := h' }) e c d (by decide) ⟨x, H, I1, ru, ⟨rfl, fun ys hy => by rw [I.list_inj hy hq]; exact hx⟩, st', fun b hb => (hf b hb).1⟩⟩
  done := by
    intro X hP hw hK hc i pins s σ H E I hf st hg
    subst hP hw hK
    obtain ⟨xs, hq, hx⟩ := hg
    obtain ⟨its, rv, p, hz⟩ := I.list hq
    obtain ⟨f0, f1, f2, f3, f4, f5⟩ := hf it (by simp)
    have hl := rv.length
    exact wpAny_pyNext_list_end (I.ok.hd hc) st p.isList (by simp; omega) fun h' eb => ⟨rfl, I.turned (t' := s.toks) (fun b o hb e => eb b o hb e) f0 f1 f3 f4 f5⟩
  self := fun _ _ _ _ _ st h => wpAny_pyIter_listiter st h
theorem turn_range {P : Program} {w : World} {K : PySem.W.Frag} {tg : Expr} (it : Addr) (lo : Int) (n : Nat) : Turn P w K tg (Itr lo n) [it] it (fun i h => IsRangeIter h it (lo + (i : Nat) * 1) ((n : Int) - (i : Nat)) 1) where
  mem := by simp
  obj := fun i h st b hb => by
    have e : b = it := by simpa using hb
    subst e
    exact ⟨_, st, fun v z => by
      have z' : Data.fields _ = Data.cell v := z
      cases z'⟩
  keep := fun i h h' st k => k it (by simp) _ st
  item := by
    intro X hP hw hK hc i pins s σ H E I hf st hg
    subst hP hw hK
    obtain ⟨f0, f1, f2, f3, f4, f5⟩ := hf it (by simp)
    have W := Walks.range (prog := X.prog) (w := X.w) (I.ok.hd hc) it lo 1 n
    refine W.item i s _ _ hg st fun v h' tk hv st' kk => ?_
    obtain ⟨t, rfl⟩ := hv
    have I1 : Inv X pins σ H { s with heap := h', toks := tk } := I.turned (fun b o hb e => kk b o (by simpa using hb) e) f0 f1 f3 f4 f5
    refine ⟨_, rfl, go_of (s := { s with heap := h', toks := tk }) (n := "range_iterator") st' rfl rfl (by decide) ⟨.int (lo + i), H, I1, ⟨t, ?_⟩, ⟨rfl, rfl⟩, st', fun b hb => (hf b hb).1⟩⟩
    rw [Int.mul_one]
  done := by
    intro X hP hw hK hc i pins s σ H E I hf st hg
    subst hP hw hK
    obtain ⟨f0, f1, f2, f3, f4, f5⟩ := hf it (by simp)
    exact wpAny_pyNext_range_end (I.ok.hd hc) st (by have : n ≤ i := hg; omega) fun h' eb => ⟨rfl, I.turned (t' := s.toks) (fun b o hb e => eb b o hb e) f0 f1 f3 f4 f5⟩
  self := fun _ _ _ _ _ st h => wpAny_pyIter_rangeiter st h
end L2

namespace L2
open PySem PySem.Spec PyProof.Rows
section
variable {X : Cx} {tg : Expr}
def iList (K : PySem.W.Frag) (tl : TE) : TI := fun σ H R => tl σ H fun x H1 => ∃ a, x = .ref a ∧ (∃ xs, SqL K H1 a xs) ∧ R (Itl K a) H1
theorem pi_list {l : Expr} {tl : TE} (hl : PE X l tl) : PI X tg l (iList X.K tl) := by
  intro pins s σ H R I h
  refine thn (hl pins s σ H _ I h) fun v s1 ⟨x, H1, I1, r1, q1⟩ => ?_
  obtain ⟨a, e, ⟨xs, hq⟩, q⟩ := q1
  subst e
  cases r1
  obtain ⟨its, rv, p, hz⟩ := I1.list hq
  refine wpAny_pyIter_list p.isList ?_
  refine ⟨s1.heap.objs.size, [s1.heap.objs.size], _, _, H1, rfl, I1.kept (t' := s1.toks) fun b o e => Heap.get?_push_of_some _ e, turn_list a _, ⟨_, Heap.get?_push_size _ rfl, rfl, rfl⟩, fun b hb => ?_, q⟩
  have e : b = s1.heap.objs.size := by simpa using hb
  subst e
  exact I1.fpOk (Nat.le_refl _) (I1.hok.fresh (Nat.le_refl _))
/-- a range object just made, walked -/
theorem range_it {pins : List (Addr × Obj)} {σ : St} {H : Hp} {s : Shared} {R : It → Hp → Prop} {E : Value → Shared → Prop} {lo hi : Int} {t u v : Tok} {tk : Nat} (I : Inv X pins σ H s) (h1 : -(2 ^ 62) ≤ lo) (h2 : lo < 2 ^ 62) (h3 : -(2 ^ 62) ≤ hi) (h4 : hi < 2 ^ 62)
    (q : R (Itr lo (hi - lo).toNat) H) : wpAny (model X.prog X.w) X.A (pyIter (.ref s.heap.objs.size)) (PIE X pins σ tg R) E { s with heap := s.heap.push { cls := .type "range", data := .fields #[.int lo t, .int hi u, .int 1 v] }, toks := tk } := by
  refine wpAny_pyIter_range (IsRange.new ..) (small_one h1 h2 h3 h4) ?_
  have I1 : Inv X pins σ H { s with heap := s.heap.push { cls := .type "range", data := .fields #[.int lo t, .int hi u, .int 1 v] }, toks := tk } := I.kept fun b o e => Heap.get?_push_of_some _ e
  refine ⟨(s.heap.push { cls := .type "range", data := .fields #[.int lo t, .int hi u, .int 1 v] }).objs.size, [(s.heap.push { cls := .type "range", data := .fields #[.int lo t, .int hi u, .int 1 v] }).objs.size], _, _, H, rfl,
    I1.kept (t' := tk) fun b o e => Heap.get?_push_of_some _ e, turn_range _ lo (hi - lo).toNat, ?_, fun b hb => ?_, q⟩
  · have e1 : lo + ((0 : Nat) : Int) * 1 = lo := by simp
    have e2 : (((hi - lo).toNat : Nat) : Int) - ((0 : Nat) : Int) = Builtin.Range.rangeSize lo hi 1 := by rw [rangeSize_one]; split <;> omega
    show IsRangeIter _ _ (lo + ((0 : Nat) : Int) * 1) ((((hi - lo).toNat : Nat) : Int) - ((0 : Nat) : Int)) 1
    rw [e1, e2]
    exact Heap.get?_push_size _ rfl
  · have e : b = (s.heap.push { cls := .type "range", data := .fields #[.int lo t, .int hi u, .int 1 v] }).objs.size := by simpa using hb
    subst e
    exact I1.fpOk (Nat.le_refl _) (I1.hok.fresh (Nat.le_refl _))
def iRng1 (ta : TA) : TI := fun σ H R => ta σ H fun vs H1 => ∃ j : Int, vs = [.int j] ∧ -(2 ^ 62) ≤ j ∧ j < 2 ^ 62 ∧ R (Itr 0 j.toNat) H1
def iRng2 (ta : TA) : TI := fun σ H R => ta σ H fun vs H1 => ∃ i j : Int, vs = [.int i, .int j] ∧ (-(2 ^ 62) ≤ i ∧ i < 2 ^ 62 ∧ -(2 ^ 62) ≤ j ∧ j < 2 ^ 62) ∧ R (Itr i (j - i).toNat) H1
theorem pi_range1 {a : Expr} {ta : TA} {p pos : Pos} (hg : Gl X "range") (hm : X.mg "range" = none) (ha : PA X [a] ta) (hs : starEach [a] X.env = [(false, eval a X.env)] := by rfl) : PI X tg (.Call (.Name "range" p) [a] [] pos) (iRng1 ta) := by
  intro pins s σ H R I h
  refine Call_ (ld_blt I hg hm boot_range (PyProof.Rows.callWith_type1 (thn (ha pos pins s σ H _ I h) fun us s1 ⟨vs, H1, I1, r1, q1⟩ => ?_) hs rfl))
  obtain ⟨j, e, q1, q2, q⟩ := q1
  subst e
  cases r1 with
  | cons r rr =>
    cases rr
    obtain ⟨t, rfl⟩ := r
    exact call_range_1 (range_it I1 (by omega) (by omega) q1 q2 (by simpa using q))
theorem pi_range2 {a b : Expr} {ta : TA} {p pos : Pos} (hg : Gl X "range") (hm : X.mg "range" = none) (ha : PA X [a, b] ta) (hs : starEach [a, b] X.env = [(false, eval a X.env), (false, eval b X.env)] := by rfl) (hs2 : starEach [b] X.env = [(false, eval b X.env)] := by rfl) :
    PI X tg (.Call (.Name "range" p) [a, b] [] pos) (iRng2 ta) := by
  intro pins s σ H R I h
  refine Call_ (ld_blt I hg hm boot_range (PyProof.Rows.callWith_type1 (thn (ha pos pins s σ H _ I h) fun us s1 ⟨vs, H1, I1, r1, q1⟩ => ?_) (by rw [hs, hs2]) (by rw [hs2]; rfl)))
  obtain ⟨i, j, e, ⟨q1, q2, q3, q4⟩, q⟩ := q1
  subst e
  cases r1 with
  | cons r rr =>
    cases rr with
    | cons r' rr =>
      cases rr
      obtain ⟨t, rfl⟩ := r
      obtain ⟨t', rfl⟩ := r'
      exact call_range_2 (range_it I1 q1 q2 q3 q4 q)

/-! ### for -/
/-- W: the invariant by the turn and a measure; N: what the body is to reach -/
def tFor (wi : TI) (g : TG) (tb : TS) : TS := fun D σ H => wi σ H fun J H1 => ∃ W : Nat → Nat → St → Hp → Prop, (∃ m, W 0 m σ H1) ∧ ∀ i m σ H, W i m σ H →
  (J.stop i H ∧ D.nx σ H) ∨ (J.go i H ∧ ∃ N : St → Hp → Prop, (∀ σ' H', N σ' H' → ∃ m', m' < m ∧ W (i + 1) m' σ' H') ∧ ∀ x H', J.yld i H x H' → g x σ H' fun σ2 H2 => tb { D with nx := N, ct := N, bk := D.nx } σ2 H2)
/-- the records at fp as they stand -/
def pinsAt (fp : List Addr) (h : Heap) : List (Addr × Obj) := fp.filterMap fun b => (h.get? b).map fun o => (b, o)
theorem mem_pinsAt {fp : List Addr} {h : Heap} {b : Addr} {o : Obj} (hb : b ∈ fp) (e : h.get? b = some o) : (b, o) ∈ pinsAt fp h := List.mem_filterMap.mpr ⟨b, hb, by rw [e]; rfl⟩
theorem of_pinsAt {fp : List Addr} {h : Heap} {p : Addr × Obj} (hp : p ∈ pinsAt fp h) : p.1 ∈ fp ∧ h.get? p.1 = some p.2 := by
  obtain ⟨b, hb, e⟩ := List.mem_filterMap.mp hp
  cases q : h.get? b with
  | none => rw [q] at e; cases e
  | some o =>
    rw [q] at e
    have e' : (b, o) = p := Option.some.inj e
    subst e'
    exact ⟨hb, q⟩
theorem Inv.pinned {pins : List (Addr × Obj)} {σ : St} {H : Hp} {s : Shared} {fp : List Addr} (I : Inv X pins σ H s) (hf : ∀ b ∈ fp, FpOk X pins H b) (ho : ∀ b ∈ fp, ∃ o, s.heap.get? b = some o ∧ ∀ v, o.data ≠ .cell v) : Inv X (pins ++ pinsAt fp s.heap) σ H s :=
  I.pins_of fun p hp => (List.mem_append.mp hp).elim (fun z => I.pin p (List.mem_append_right _ z)) fun z => by
    obtain ⟨hb, e⟩ := of_pinsAt z
    obtain ⟨f0, f1, f2, _⟩ := hf p.1 hb
    obtain ⟨o, e', d⟩ := ho p.1 hb
    rw [e] at e'; cases e'
    exact ⟨e, f0, f1, f2, d⟩
theorem Inv.unpinned {pins pl : List (Addr × Obj)} {σ : St} {H : Hp} {s : Shared} (I : Inv X (pins ++ pl) σ H s) : Inv X pins σ H s := I.pins_of fun p hp => I.pin p (List.mem_append_right _ (List.mem_append_left _ hp))
theorem ps_for {iter : Expr} {body : List Stmt} {wi : TI} {g : TG} {tb : TS} {pos : Pos} (hp : PassesOwn (model X.prog X.w) X.A X.env X.xe) (hc : X.calm = true) (hi : PI X tg iter wi) (hg : PG X tg g) (hb : PSs X body tb)
    (hs : ∀ x, foldedSetIterable iter X.env x = pure x := by intro _; rfl) : PS X (.For tg iter body [] pos) (tFor wi g tb) := by
  intro pins s σ H D I h
  refine wpAny_For (thn (hi pins s σ H _ I h) fun v s1 h1 => thn h1 fun itv s2 h2 => ?_) hs
  obtain ⟨it, fp, tn, J, H2, e, I2, T, st2, f2, W, ⟨m0, w0⟩, turn⟩ := h2
  subst e
  -- what stays true of the iterator's objects through the loop
  have stat : ∀ {H' : Hp}, (∀ b ∈ fp, H' b = none) → ∀ b ∈ fp, FpOk X pins H' b := fun hn b hb => ⟨hn b hb, (f2 b hb).2⟩
  refine codeAny_forLoop_any (fun n s' => ∃ i σ' H', Inv X pins σ' H' s' ∧ tn i s'.heap ∧ (∀ b ∈ fp, H' b = none) ∧ W i n σ' H') ?_ m0 ⟨0, σ, H2, I2, st2, fun b hb => (f2 b hb).1, w0⟩
  rintro n s3 ⟨i, σ3, H3, I3, st3, fr3, w3⟩
  rcases turn i n σ3 H3 w3 with ⟨stop, qn⟩ | ⟨go, N, hN, step⟩
  · refine wpAny_passesOwn hp (thn (T.done X rfl rfl rfl hc i pins s3 σ3 H3 X.xe I3 (stat fr3) st3 stop) fun r s4 ⟨hr, I4⟩ => ?_)
    subst hr
    exact wpAny_execs_nil ⟨σ3, H3, I4, qn⟩
  · refine wpAny_passesOwn hp (thn (T.item X rfl rfl rfl hc i pins s3 σ3 H3 X.xe I3 (stat fr3) st3 go) fun r s4 ⟨u, hr, h4⟩ => ?_)
    subst hr
    refine wpAny_passesOwn hp (thn h4 fun _ s5 ⟨x, H5, I5, r5, y5, st5, fr5⟩ => ?_)
    have I5' := I5.pinned (stat fr5) (T.obj _ _ st5)
    refine wpAny_passesOwn hp (thn (hg _ s5 σ3 H5 x u _ I5' r5 (step x H5 y5)) fun _ s6 ⟨σ6, H6, I6, q6⟩ => ?_)
    refine wpAny_passesOwn hp (thn (hb _ s6 σ6 H6 _ I6 q6) fun f s7 q7 => ?_)
    have again : ∀ {σ7 : St} {H7 : Hp}, Inv X (pins ++ pinsAt fp s5.heap) σ7 H7 s7 → N σ7 H7 → ∃ m, m < n ∧ ∃ i σ' H', Inv X pins σ' H' s7 ∧ tn i s7.heap ∧ (∀ b ∈ fp, H' b = none) ∧ W i m σ' H' := fun {σ7 H7} I7 n7 => by
      obtain ⟨m', hm, w7⟩ := hN σ7 H7 n7
      refine ⟨m', hm, i + 1, σ7, H7, I7.unpinned, T.keep _ _ _ st5 fun b hb o e => (I7.pin (b, o) (List.mem_append_right _ (List.mem_append_right _ (mem_pinsAt hb e)))).1, fun b hb => ?_, w7⟩
      obtain ⟨o, e, d⟩ := T.obj _ _ st5 b hb
      exact (I7.pin (b, o) (List.mem_append_right _ (List.mem_append_right _ (mem_pinsAt hb e)))).2.1
    cases f with
    | next => obtain ⟨σ7, H7, I7, n7⟩ := q7; exact again I7 n7
    | cont => obtain ⟨σ7, H7, I7, n7⟩ := q7; exact again I7 n7
    | brk => obtain ⟨σ7, H7, I7, q7⟩ := q7; exact ⟨σ7, H7, I7.unpinned, q7⟩
    | ret v => obtain ⟨x7, σ7, H7, I7, r7, q7⟩ := q7; exact ⟨x7, σ7, H7, I7.unpinned, r7, q7⟩
end

/-! ### the forms one uses -/
/-- over a list that the body leaves as it is -/
theorem for_list {K : PySem.W.Frag} {a : Addr} {xs : List V} {g : TG} {tb : TS} {D : Ends} {σ : St} {H : Hp} (Pv : Nat → St → Hp → Prop) (h0 : Pv 0 σ H) (hl : ∀ i σ H, i ≤ xs.length → Pv i σ H → SqL K H a xs)
    (hs : ∀ i x σ H, xs[i]? = some x → Pv i σ H → g x σ H fun σ2 H2 => tb { D with nx := Pv (i + 1), ct := Pv (i + 1), bk := D.nx } σ2 H2) (hd : ∀ σ H, Pv xs.length σ H → D.nx σ H) :
    ∃ W : Nat → Nat → St → Hp → Prop, (∃ m, W 0 m σ H) ∧ ∀ i m σ H, W i m σ H →
      ((Itl K a).stop i H ∧ D.nx σ H) ∨ ((Itl K a).go i H ∧ ∃ N : St → Hp → Prop, (∀ σ' H', N σ' H' → ∃ m', m' < m ∧ W (i + 1) m' σ' H') ∧ ∀ x H', (Itl K a).yld i H x H' → g x σ H' fun σ2 H2 => tb { D with nx := N, ct := N, bk := D.nx } σ2 H2) := by
  refine ⟨fun i m σ H => m = xs.length - i ∧ i ≤ xs.length ∧ Pv i σ H, ⟨xs.length, by simp, Nat.zero_le _, h0⟩, ?_⟩
  rintro i m σ H ⟨rfl, hi, p⟩
  have q := hl i σ H hi p
  by_cases hlt : i < xs.length
  · refine .inr ⟨⟨xs, xs[i], q, by simp [hlt]⟩, Pv (i + 1), fun σ' H' p' => ⟨xs.length - (i + 1), by omega, rfl, hlt, p'⟩, fun x H' y => ?_⟩
    obtain ⟨e, y⟩ := y
    subst e
    exact hs i x σ _ (y xs q) p
  · have e : i = xs.length := by omega
    subst e
    exact .inl ⟨⟨xs, q, Nat.le_refl _⟩, hd σ H p⟩
theorem for_range {lo : Int} {n : Nat} {g : TG} {tb : TS} {D : Ends} {σ : St} {H : Hp} (Pv : Nat → St → Hp → Prop) (h0 : Pv 0 σ H)
    (hs : ∀ i σ H, i < n → Pv i σ H → g (.int (lo + i)) σ H fun σ2 H2 => tb { D with nx := Pv (i + 1), ct := Pv (i + 1), bk := D.nx } σ2 H2) (hd : ∀ σ H, Pv n σ H → D.nx σ H) :
    ∃ W : Nat → Nat → St → Hp → Prop, (∃ m, W 0 m σ H) ∧ ∀ i m σ H, W i m σ H →
      ((Itr lo n).stop i H ∧ D.nx σ H) ∨ ((Itr lo n).go i H ∧ ∃ N : St → Hp → Prop, (∀ σ' H', N σ' H' → ∃ m', m' < m ∧ W (i + 1) m' σ' H') ∧ ∀ x H', (Itr lo n).yld i H x H' → g x σ H' fun σ2 H2 => tb { D with nx := N, ct := N, bk := D.nx } σ2 H2) := by
  refine ⟨fun i m σ H => m = n - i ∧ i ≤ n ∧ Pv i σ H, ⟨n, by simp, Nat.zero_le _, h0⟩, ?_⟩
  rintro i m σ H ⟨rfl, hi, p⟩
  by_cases hlt : i < n
  · refine .inr ⟨hlt, Pv (i + 1), fun σ' H' p' => ⟨n - (i + 1), by omega, rfl, hlt, p'⟩, fun x H' y => ?_⟩
    obtain ⟨e, y⟩ := y
    subst e y
    exact hs i σ _ hlt p
  · have e : i = n := by omega
    subst e
    exact .inl ⟨Nat.le_refl _, hd σ H p⟩
end L2

namespace L2
open PySem PySem.Spec PyProof.Rows

abbrev R2 := V → V → Hp → VK → Prop
/-- a two-place operation on values: f is binaryOp op, inplaceOp op or compareOp op -/
def OpR (X : Cx) (f : Value → Value → Sem Value) (r : R2) : Prop :=
  ∀ (pins : List (Addr × Obj)) (s : Shared) (σ : St) (H : Hp) (x y : V) (v u : Value) (Q : VK), Inv X pins σ H s → RelV x v → RelV y u → r x y H Q →
    wpAny (model X.prog X.w) X.A (f v u) (EP X pins σ Q) X.xe s
/-- a call of a value that is known (a builtin, a type) with values -/
def CallR (X : Cx) (f : Value) (r : List V → Hp → VK → Prop) : Prop :=
  ∀ (pins : List (Addr × Obj)) (s : Shared) (σ : St) (H : Hp) (xs : List V) (us : List Value) (Q : VK), Inv X pins σ H s → Vals xs us → r xs H Q →
    wpAny (model X.prog X.w) X.A (call f us) (EP X pins σ Q) X.xe s
/-- a value's truth -/
def TruR (X : Cx) (r : V → Hp → (Bool → Hp → Prop) → Prop) : Prop :=
  ∀ (pins : List (Addr × Obj)) (s : Shared) (σ : St) (H : Hp) (x : V) (v : Value) (Q : Bool → Hp → Prop), Inv X pins σ H s → RelV x v → r x H Q →
    wpAny (model X.prog X.w) X.A (truthy v) (TP X pins σ Q) X.xe s

def tOp (r : R2) (ta tb : TE) : TE := fun σ H Q => ta σ H fun x H1 => tb σ H1 fun y H2 => r x y H2 Q
/-- ints in, under C, and a value out -/
def rI (C : Int → Int → Prop) (g : Int → Int → V) : R2 := fun x y H Q => ∃ i j, x = .int i ∧ y = .int j ∧ C i j ∧ Q (g i j) H
def rI0 (g : Int → Int → V) : R2 := fun x y H Q => ∃ i j, x = .int i ∧ y = .int j ∧ Q (g i j) H
section
variable {X : Cx} {a b c : Expr} {ta tb tc : TE} {pos : Pos}

theorem binT (ha : PE X a ta) (hb : PE X b tb) {pins : List (Addr × Obj)} {s : Shared} {σ : St} {H : Hp} {R : V → V → Hp → Prop} (I : Inv X pins σ H s)
    (h : ta σ H fun x H1 => tb σ H1 fun y H2 => R x y H2) {Q : Value → Shared → Prop} {f : Value → Value → Sem Value}
    (hf : ∀ v u s2 x y H2, Inv X pins σ H2 s2 → RelV x v → RelV y u → R x y H2 → wpAny (model X.prog X.w) X.A (f v u) Q X.xe s2) :
    wpAny (model X.prog X.w) X.A (eval a X.env) (fun v s₁ => wpAny (model X.prog X.w) X.A (eval b X.env) (fun u s₂ => wpAny (model X.prog X.w) X.A (f v u) Q X.xe s₂) X.xe s₁) X.xe s := by
  refine thn (ha pins s σ H _ I h) fun v s1 ⟨x, H1, I1, r1, q1⟩ => ?_
  refine thn (hb pins s1 σ H1 _ I1 q1) fun u s2 ⟨y, H2, I2, r2, q2⟩ => ?_
  exact hf v u s2 x y H2 I2 r1 r2 q2

theorem pe_op {op : Operator} {r : R2} (ho : OpR X (binaryOp op) r) (ha : PE X a ta) (hb : PE X b tb) : PE X (.BinOp a op b pos) (tOp r ta tb) := by
  intro pins s σ H Q I h
  exact wpAny_BinOp (binT ha hb I h fun v u s2 x y H2 I2 rx ry q => ho pins s2 σ H2 x y v u Q I2 rx ry q)
/-! ### ints -/
theorem opI {f : Value → Value → Sem Value} {C : Int → Int → Prop} {g : Int → Int → Int}
    (rule : ∀ (i j : Int) (t u : Tok) (s : Shared) (Q : Value → Shared → Prop) (E : Value → Shared → Prop), C i j → Q (.int (g i j) s.toks) { s with toks := s.toks + 1 } → wpAny (model X.prog X.w) X.A (f (.int i t) (.int j u)) Q E s) :
    OpR X f (rI C fun i j => .int (g i j)) := by
  intro pins s σ H x y v u Q I rx ry h
  obtain ⟨i, j, rfl, rfl, hc, q⟩ := h
  obtain ⟨t, rfl⟩ := rx
  obtain ⟨t', rfl⟩ := ry
  exact rule i j t t' s _ _ hc ⟨.int (g i j), H, I.tok _, ⟨_, rfl⟩, q⟩
theorem opI0 {f : Value → Value → Sem Value} {g : Int → Int → Int}
    (rule : ∀ (i j : Int) (t u : Tok) (s : Shared) (Q : Value → Shared → Prop) (E : Value → Shared → Prop), Q (.int (g i j) s.toks) { s with toks := s.toks + 1 } → wpAny (model X.prog X.w) X.A (f (.int i t) (.int j u)) Q E s) :
    OpR X f (rI0 fun i j => .int (g i j)) := by
  intro pins s σ H x y v u Q I rx ry h
  obtain ⟨i, j, rfl, rfl, q⟩ := h
  obtain ⟨t, rfl⟩ := rx
  obtain ⟨t', rfl⟩ := ry
  exact rule i j t t' s _ _ ⟨.int (g i j), H, I.tok _, ⟨_, rfl⟩, q⟩
theorem opB0 {f : Value → Value → Sem Value} {g : Int → Int → Bool}
    (rule : ∀ (i j : Int) (t u : Tok) (s : Shared) (Q : Value → Shared → Prop) (E : Value → Shared → Prop), Q (.bool (g i j)) s → wpAny (model X.prog X.w) X.A (f (.int i t) (.int j u)) Q E s) :
    OpR X f (rI0 fun i j => .bl (g i j)) := by
  intro pins s σ H x y v u Q I rx ry h
  obtain ⟨i, j, rfl, rfl, q⟩ := h
  obtain ⟨t, rfl⟩ := rx
  obtain ⟨t', rfl⟩ := ry
  exact rule i j t t' s _ _ ⟨.bl (g i j), H, I, rfl, q⟩

def CDiv (i j : Int) : Prop := 0 < j ∧ j < 1073741824
def CMul (i j : Int) : Prop := (-(2 ^ 64) < i ∧ i < 2 ^ 64) ∨ (-(2 ^ 64) < j ∧ j < 2 ^ 64)
theorem CMul.ok {i j : Int} (h : CMul i j) : IntMulOk i j := by
  rcases h with ⟨h1, h2⟩ | ⟨h1, h2⟩
  · exact .of_left (intBits_le_64 h1 h2)
  · exact .of_right (intBits_le_64 h1 h2)
theorem op_add : OpR X (binaryOp .Add) (rI0 fun i j => .int (i + j)) := opI0 fun _ _ _ _ _ _ _ q => add_int q
theorem op_sub : OpR X (binaryOp .Sub) (rI0 fun i j => .int (i - j)) := opI0 fun _ _ _ _ _ _ _ q => sub_int q
theorem op_mul : OpR X (binaryOp .Mult) (rI CMul fun i j => .int (i * j)) := opI fun _ _ _ _ _ _ _ hc q => mul_int q hc.ok
/-- // by a positive divisor -/
theorem op_fdiv : OpR X (binaryOp .FloorDiv) (rI CDiv fun i j => .int (i / j)) := opI fun i j _ _ _ _ _ hc q => by
  have h1 : (0 : Int) < j := hc.1
  have h2 : j < 1073741824 := hc.2
  exact floordiv_int (by omega) (by rw [Int.fdiv_eq_ediv_of_nonneg i (by omega)]; exact q) (.inl (PyProof.noPylong_small (by omega)))
/-- % by a positive divisor of any size -/
theorem op_mod : OpR X (binaryOp .Mod) (rI (fun _ j => 0 < j) fun i j => .int (i % j)) := opI fun i j _ _ _ _ _ hc q => by
  have h1 : (0 : Int) < j := hc
  exact mod_int' (by omega) (by rw [Int.fmod_eq_emod_of_nonneg i (by omega)]; exact q)
/-! ### bools among ints: n += (a < b) -/
end

/-! ### comparisons -/
/-- the scalars that == tells apart as data does -/
def scal : V → V → Bool
  | .non, .non => true | .non, .int _ => true | .int _, .non => true | .non, .bl _ => true | .bl _, .non => true | .non, .str _ => true | .str _, .non => true
  | .int _, .int _ => true | .bl _, .bl _ => true | .str _, .str _ => true | .byt _, .byt _ => true
  | .int _, .str _ => true | .str _, .int _ => true | .bl _, .str _ => true | .str _, .bl _ => true
  | _, _ => false
def rEq : R2 := fun x y H Q => scal x y = true ∧ Q (.bl (decide (x = y))) H
def rNe : R2 := fun x y H Q => scal x y = true ∧ Q (.bl (!decide (x = y))) H

theorem dec_int {i j : Int} : decide (V.int i = V.int j) = (i == j) := by
  rw [Bool.eq_iff_iff]
  simp
theorem dec_bl {i j : Bool} : decide (V.bl i = V.bl j) = (i == j) := by
  rw [Bool.eq_iff_iff]
  simp
theorem dec_str {i j : Str} : decide (V.str i = V.str j) = (i == j) := by
  rw [Bool.eq_iff_iff]
  simp
theorem dec_byt {i j : Array UInt8} : decide (V.byt i = V.byt j) = (i.toList == j.toList) := by
  rw [Bool.eq_iff_iff]
  cases i
  cases j
  simp

section
variable {X : Cx} {a b c : Expr} {ta tb tc : TE} {pos : Pos}
theorem fin_bl {pins : List (Addr × Obj)} {σ : St} {H : Hp} {s : Shared} {Q : VK} {k k' : Bool} (I : Inv X pins σ H s) (q : Q (.bl k) H) (e : k = k') : EP X pins σ Q (.bool k') s := by
  subst e
  exact ⟨.bl k, H, I, rfl, q⟩
theorem op_eq : OpR X (compareOp .Eq) rEq := by
  intro pins s σ H x y v u Q I rx ry h
  obtain ⟨hs, q⟩ := h
  cases x with
  | non =>
    cases rx
    cases y with
    | non => cases ry; exact PySem.EqNone.eq_none_none (fin_bl I q (by simp))
    | bl j => cases ry; exact PySem.EqNone.eq_none_bool (fin_bl I q (by simp))
    | int j => obtain ⟨t', rfl⟩ := ry; exact PySem.EqNone.eq_none_int (fin_bl I q (by simp))
    | str j => obtain ⟨t', rfl⟩ := ry; exact PySem.EqNone.eq_none_str (fin_bl I q (by simp))
    | _ => exact absurd (show false = true from hs) Bool.false_ne_true
  | bl i =>
    cases rx
    cases y with
    | non => cases ry; exact PySem.EqNone.eq_bool_none (fin_bl I q (by simp))
    | bl j => cases ry; exact eq_bool (fin_bl I q dec_bl)
    | str j => obtain ⟨t', rfl⟩ := ry; exact PySem.EqMixed.eq_bool_str (fin_bl I q (by simp))
    | _ => exact absurd (show false = true from hs) Bool.false_ne_true
  | int i =>
    obtain ⟨t, rfl⟩ := rx
    cases y with
    | non => cases ry; exact PySem.EqNone.eq_int_none (fin_bl I q (by simp))
    | int j => obtain ⟨t', rfl⟩ := ry; exact eq_int (fin_bl I q dec_int)
    | str j => obtain ⟨t', rfl⟩ := ry; exact PySem.EqMixed.eq_int_str (fin_bl I q (by simp))
    | _ => exact absurd (show false = true from hs) Bool.false_ne_true
  | str i =>
    obtain ⟨t, rfl⟩ := rx
    cases y with
    | non => cases ry; exact PySem.EqNone.eq_str_none (fin_bl I q (by simp))
    | bl j => cases ry; exact PySem.EqMixed.eq_str_bool (fin_bl I q (by simp))
    | int j => obtain ⟨t', rfl⟩ := ry; exact PySem.EqMixed.eq_str_int (fin_bl I q (by simp))
    | str j => obtain ⟨t', rfl⟩ := ry; exact eq_str (fin_bl I q dec_str)
    | _ => exact absurd (show false = true from hs) Bool.false_ne_true
  | byt i =>
    obtain ⟨t, rfl⟩ := rx
    cases y with
    | byt j => obtain ⟨t', rfl⟩ := ry; exact PySem.W.eq_bytes (fin_bl I q dec_byt)
    | _ => exact absurd (show false = true from hs) Bool.false_ne_true
  | _ => cases y <;> exact absurd (show false = true from hs) Bool.false_ne_true
theorem op_ne : OpR X (compareOp .NotEq) rNe := by
  intro pins s σ H x y v u Q I rx ry h
  obtain ⟨hs, q⟩ := h
  cases x with
  | non =>
    cases rx
    cases y with
    | non => cases ry; exact PySem.EqNone.ne_none_none (fin_bl I q (by simp))
    | bl j => cases ry; exact PySem.EqNone.ne_none_bool (fin_bl I q (by simp))
    | int j => obtain ⟨t', rfl⟩ := ry; exact PySem.EqNone.ne_none_int (fin_bl I q (by simp))
    | str j => obtain ⟨t', rfl⟩ := ry; exact PySem.EqNone.ne_none_str (fin_bl I q (by simp))
    | _ => exact absurd (show false = true from hs) Bool.false_ne_true
  | bl i =>
    cases rx
    cases y with
    | non => cases ry; exact PySem.EqNone.ne_bool_none (fin_bl I q (by simp))
    | bl j => cases ry; exact ne_bool (fin_bl I q (congrArg not dec_bl))
    | str j => obtain ⟨t', rfl⟩ := ry; exact PySem.EqMixed.ne_bool_str (fin_bl I q (by simp))
    | _ => exact absurd (show false = true from hs) Bool.false_ne_true
  | int i =>
    obtain ⟨t, rfl⟩ := rx
    cases y with
    | non => cases ry; exact PySem.EqNone.ne_int_none (fin_bl I q (by simp))
    | int j => obtain ⟨t', rfl⟩ := ry; exact ne_int (fin_bl I q (congrArg not dec_int))
    | str j => obtain ⟨t', rfl⟩ := ry; exact PySem.EqMixed.ne_int_str (fin_bl I q (by simp))
    | _ => exact absurd (show false = true from hs) Bool.false_ne_true
  | str i =>
    obtain ⟨t, rfl⟩ := rx
    cases y with
    | non => cases ry; exact PySem.EqNone.ne_str_none (fin_bl I q (by simp))
    | bl j => cases ry; exact PySem.EqMixed.ne_str_bool (fin_bl I q (by simp))
    | int j => obtain ⟨t', rfl⟩ := ry; exact PySem.EqMixed.ne_str_int (fin_bl I q (by simp))
    | str j => obtain ⟨t', rfl⟩ := ry; exact ne_str (fin_bl I q (congrArg not dec_str))
    | _ => exact absurd (show false = true from hs) Bool.false_ne_true
  | byt i =>
    obtain ⟨t, rfl⟩ := rx
    cases y with
    | byt j => obtain ⟨t', rfl⟩ := ry; exact PySem.W.ne_bytes (fin_bl I q (congrArg not dec_byt))
    | _ => exact absurd (show false = true from hs) Bool.false_ne_true
  | _ => cases y <;> exact absurd (show false = true from hs) Bool.false_ne_true

theorem op_lt : OpR X (compareOp .Lt) (rI0 fun i j => .bl (decide (i < j))) := opB0 fun _ _ _ _ _ _ _ q => lt_int q
theorem op_le : OpR X (compareOp .LtE) (rI0 fun i j => .bl (decide (i ≤ j))) := opB0 fun _ _ _ _ _ _ _ q => le_int q
theorem op_ge : OpR X (compareOp .GtE) (rI0 fun i j => .bl (decide (j ≤ i))) := opB0 fun _ _ _ _ _ _ _ q => ge_int q
theorem nomark (b : Expr) {op : CmpOp} (h : op ≠ .In := by decide) (h2 : op ≠ .NotIn := by decide) : behindInMarks op b = false := by
  have e1 : (op == CmpOp.In) = false := by cases op <;> first | rfl | exact absurd rfl h
  have e2 : (op == CmpOp.NotIn) = false := by cases op <;> first | rfl | exact absurd rfl h2
  cases b <;> simp [behindInMarks, e1, e2]
/-- a comparison as a value; hm: nomark b, or (for in, not in) by with_unfolding_all rfl -/
theorem pe_cmpR {op : CmpOp} {r : R2} (ho : OpR X (compareOp op) r) (ha : PE X a ta) (hb : PE X b tb) (hm : behindInMarks op b = false) : PE X (.Compare a [op] [b] pos) (tOp r ta tb) := by
  intro pins s σ H Q I h
  exact wpAny_Compare1 (binT ha hb I h fun v u s2 x y H2 I2 rx ry q => ho pins s2 σ H2 x y v u Q I2 rx ry q) hm
/-- a reading of a value as a test -/
def tTest (t : TE) : TT := fun σ H Q => t σ H fun x H' => ∃ k, x = .bl k ∧ Q k H'
theorem pt_cmpR {op : CmpOp} {r : R2} (ho : OpR X (compareOp op) r) (ha : PE X a ta) (hb : PE X b tb) (hm : behindInMarks op b = false) : PT X (.Compare a [op] [b] pos) (tTest (tOp r ta tb)) := by
  intro pins s σ H Q I h
  refine wpAny_isTrue_Compare1 (thn (ha pins s σ H _ I h) fun v s1 ⟨x, H1, I1, r1, q1⟩ => thn (hb pins s1 σ H1 _ I1 q1) fun u s2 ⟨y, H2, I2, r2, q2⟩ =>
    thn (ho pins s2 σ H2 x y v u _ I2 r1 r2 q2) fun c s3 ⟨z, H3, I3, r3, k, e, q3⟩ => ?_) hm
  subst e
  cases r3
  exact wpAny_truthy_bool ⟨H3, I3, q3⟩
/-- a op1 b op2 c -/
def tChain (r r' : R2) (ta tb tc : TE) : TE := fun σ H Q => ta σ H fun x H1 => tb σ H1 fun y H2 => r x y H2 fun z H3 => ∃ k, z = .bl k ∧
  (if k = true then tc σ H3 fun w' H4 => r' y w' H4 Q else Q (.bl false) H3)
theorem pe_chain {op op' : CmpOp} {r r' : R2} (ho : OpR X (compareOp op) r) (ho' : OpR X (compareOp op') r') (ha : PE X a ta) (hb : PE X b tb) (hc : PE X c tc)
    (hm : lastMarks [op, op'] [b, c] = false := by with_unfolding_all rfl) : PE X (.Compare a [op, op'] [b, c] pos) (tChain r r' ta tb tc) := by
  intro pins s σ H Q I h
  refine Compare_chain (thn (ha pins s σ H _ I h) fun v s1 ⟨x, H1, I1, r1, q1⟩ => chain_link (thn (hb pins s1 σ H1 _ I1 q1) fun u s2 ⟨y, H2, I2, r2, q2⟩ =>
    thn (ho pins s2 σ H2 x y v u _ I2 r1 r2 q2) fun d s3 ⟨z, H3, I3, r3, k, e, q3⟩ => ?_)) hm
  subst e
  cases r3
  refine wpAny_truthy_bool ?_
  cases k with
  | false => exact ite_ff ⟨.bl false, H3, I3, rfl, q3⟩
  | true => exact ite_tt (chain_last (thn (hc pins s3 σ H3 _ I3 q3) fun w' s4 ⟨z', H4, I4, r4, q4⟩ => ho' pins s4 σ H4 y z' u w' Q I4 r2 r4 q4))
theorem pt_chain {op op' : CmpOp} {r r' : R2} (ho : OpR X (compareOp op) r) (ho' : OpR X (compareOp op') r') (ha : PE X a ta) (hb : PE X b tb) (hc : PE X c tc)
    (hm : lastMarks [op, op'] [b, c] = false := by with_unfolding_all rfl) : PT X (.Compare a [op, op'] [b, c] pos) (tTest (tChain r r' ta tb tc)) := by
  intro pins s σ H Q I h
  refine isTrue_chain (thn (ha pins s σ H _ I h) fun v s1 ⟨x, H1, I1, r1, q1⟩ => test_link (thn (hb pins s1 σ H1 _ I1 q1) fun u s2 ⟨y, H2, I2, r2, q2⟩ =>
    thn (ho pins s2 σ H2 x y v u _ I2 r1 r2 q2) fun d s3 ⟨z, H3, I3, r3, k, e, q3⟩ => ?_)) hm
  subst e
  cases r3
  refine wpAny_truthy_bool ?_
  cases k with
  | false =>
    obtain ⟨k', e', q'⟩ := q3
    cases e'
    exact ite_ff ⟨H3, I3, q'⟩
  | true =>
    refine ite_tt (test_last (thn (hc pins s3 σ H3 _ I3 q3) fun w' s4 ⟨z', H4, I4, r4, q4⟩ => thn (ho' pins s4 σ H4 y z' u w' _ I4 r2 r4 q4) fun d' s5 ⟨z2, H5, I5, r5, k2, e2, q5⟩ => ?_))
    subst e2
    cases r5
    exact wpAny_truthy_bool ⟨H5, I5, q5⟩

/-! ### truth -/
/-- a value's truth by the abstract heap -/
def TruV (K : PySem.W.Frag) (x : V) (H : Hp) (k : Bool) : Prop :=
  match x with
  | .non => k = false
  | .bl b => k = b
  | .int i => k = (i != 0)
  | .str y => y.length ≤ sizeLine ∧ k = ((y.length : Int) != 0)
  | .byt y => y.size ≤ sizeLine ∧ k = ((y.size : Int) != 0)
  | .ref p => (∃ xs, SqL K H p xs ∧ k = !xs.isEmpty) ∨ (∃ xs, SqT K H p xs ∧ k = !xs.isEmpty) ∨ ∃ kvs, H p = some (.dK kvs) ∧ k = !kvs.isEmpty
  | _ => False
theorem isEmpty_kv {κ : Type} {kvs : List (κ × V)} {vs : List (κ × Value)} (r : KV kvs vs) : (!vs.isEmpty) = !kvs.isEmpty := by
  cases r <;> rfl
theorem isEmpty_of {xs : List V} {its : List Value} (r : Vals xs its) : (!its.toArray.isEmpty) = !xs.isEmpty := by
  cases r <;> simp
theorem line63 : (sizeLine : Nat) < 2 ^ 63 := by rw [sizeLine_eq]; decide
theorem tru_ok : TruR X (fun x H Q => ∃ k, TruV X.K x H k ∧ Q k H) := by
  intro pins s σ H x v Q I rx h
  obtain ⟨k, e, q⟩ := h
  have hl := line63
  have hs : sizeLine = 16777216 := sizeLine_eq
  cases x with
  | non =>
    cases rx
    have e' : k = false := e
    subst e'
    exact truthy_none ⟨H, I, q⟩
  | bl b =>
    cases rx
    have e' : k = b := e
    subst e'
    exact wpAny_truthy_bool ⟨H, I, q⟩
  | int i =>
    obtain ⟨t, rfl⟩ := rx
    have e' : k = (i != 0) := e
    subst e'
    exact PySem.P.truthy_int ⟨H, I, q⟩
  | str y =>
    obtain ⟨t, rfl⟩ := rx
    obtain ⟨hy, e'⟩ : y.length ≤ sizeLine ∧ k = ((y.length : Int) != 0) := e
    subst e'
    exact PySem.P.truthy_str (by omega) ⟨H, I.tok _, q⟩
  | byt y =>
    obtain ⟨t, rfl⟩ := rx
    obtain ⟨hy, e'⟩ : y.size ≤ sizeLine ∧ k = ((y.size : Int) != 0) := e
    subst e'
    exact PySem.W.truthy_bytes (by omega) ⟨H, I.tok _, q⟩
  | ref p =>
    cases rx
    have e' : (∃ xs, SqL X.K H p xs ∧ k = !xs.isEmpty) ∨ (∃ xs, SqT X.K H p xs ∧ k = !xs.isEmpty) ∨ ∃ kvs, H p = some (.dK kvs) ∧ k = !kvs.isEmpty := e
    rcases e' with ⟨xs, hx, e'⟩ | ⟨xs, hx, e'⟩ | ⟨kvs, hx, e'⟩
    · subst e'
      obtain ⟨its, r, pl, hz⟩ := I.list hx
      have hlen := r.length
      exact wpAny_truthy_list pl.isList (by simp only [List.size_toArray]; omega) ⟨H, I.tok _, by rw [isEmpty_of r]; exact q⟩
    · subst e'
      obtain ⟨its, r, pl, hz⟩ := I.tuple hx
      have hlen := r.length
      exact truthy_tuple pl (by simp only [List.size_toArray]; omega) ⟨H, I.tok _, by rw [isEmpty_of r]; exact q⟩
    · subst e'
      obtain ⟨hz, hS, vs, r, m⟩ : kvs.length ≤ sizeLine ∧ (p == sysModules) = false ∧ ∃ vs, KV kvs vs ∧ s.heap.DictOf (mixKind X.prog X.w) p vs := I.hok p _ hx
      have hlen : kvs.length = vs.length := Paired.length r
      exact wpAny_truthy_dict hS m (by omega) ⟨H, I.tok _, by rw [isEmpty_kv r]; exact q⟩
  | _ => exact (show False from e).elim
/-- any expression whose test is its value's truth (a name, a call, a subscript, a field ..: he by fun _ => rfl) -/
theorem pt_truth (ha : PE X a ta) (he : ∀ whole, isTrue a X.env whole = (do let v ← whole; standAt a.pos; holding [v] (truthy v))) :
    PT X a (fun σ H Q => ta σ H fun x H' => ∃ k, TruV X.K x H' k ∧ Q k H') := by
  intro pins s σ H Q I h
  exact isTrue_plain (thn (ha pins s σ H _ I h) fun v s1 ⟨x, H1, I1, r1, q1⟩ => tru_ok pins s1 σ H1 x v Q I1 r1 q1) (he _)

/-! ### strs and bytes -/
/-! ### scalar builtins, by CallR -/
theorem vals1 {x : V} {us : List Value} (r : Vals [x] us) : ∃ u, us = [u] ∧ RelV x u := by
  cases r with
  | cons r1 r2 => cases r2; exact ⟨_, rfl, r1⟩
end
end L2

namespace L2
open PySem PySem.Spec PyProof.Rows

/-! ### an instance, its attributes a map -/
structure ObjM (h : Heap) (x dx C : Addr) (mA : Str → Option Value) : Prop where
  obj : h.get? x = some (PySem.W.instObj C dx)
  ns : h.Ns1 dx mA
  ne : dx ≠ x

section
variable {prog : Program} {w : World} {A : Around} {E : Value → Shared → Prop} {s : Shared} {K : PySem.W.Frag} {x dx C f : Addr} {mA : Str → Option Value} {name : Str} {v : Value}

end

/-! ### the attributes as a list of pairs -/
section
variable {P : Program} {w : World} {H H' : Hp} {h h' : Heap} {a C dx : Addr} {fs fs' : List (Str × V)}
end

/-! ### what of the text a class must have -/
structure Cls (K : PySem.W.Frag) (C : Addr) : Prop where
  pg : PySem.W.plainGet K C Str.empty = true
  hd : PySem.W.hasDictIn K C = true
  po : PySem.W.plainOver K C = true
  sa : PySem.W.findIn K (.ref C) "__setattr__" = some (some (.builtin "object.__setattr__"))
/-- a constant of the class -/
structure Con (K : PySem.W.Frag) (C : Addr) (f : Str) (v : V) (u : Value) : Prop where
  at_ : PySem.W.findIn K (.ref C) f = some (some u)
  rel : RelV v u
  get : PySem.W.specialIn K u "__get__" = some none
  cp : PySem.W.copiedNames.contains f = false
/-- a method: a plain def of the class or of one above it -/
structure Meth (K : PySem.W.Frag) (C : Addr) (m : Str) (f : Addr) : Prop where
  at_ : PySem.W.findIn K (.ref C) m = some (some (.ref f))
  fn : PySem.W.isFn K (.ref f) = true
  kp : PySem.W.keepIn K (.ref f) = true

section
variable {X : Cx} {pins : List (Addr × Obj)} {σ : St} {H : Hp} {s : Shared} {a C dx : Addr} {fs : List (Str × V)} {f : Str} {v : V} {A : Around} {E : Value → Shared → Prop}

end

/-! ### readings and rules -/
section
variable {X : Cx} {o e value : Expr} {f : Str} {pos pos' tpos : Pos} {ta tv : TE}
end

/-! ### isinstance -/
section
variable {X : Cx} {pins : List (Addr × Obj)} {σ : St} {H : Hp} {s : Shared} {A : Around} {E : Value → Shared → Prop} {Q : Value → Shared → Prop} {c : Value} {b : Bool}
/-- the type of a value, as the fragment's deciders take it; for an instance its class -/
inductive TyOf (K : PySem.W.Frag) (H : Hp) : V → Value → Prop where
  | non : TyOf K H .non (.type "NoneType")
  | bl (x : Bool) : TyOf K H (.bl x) (.type "bool")
  | int (i : Int) : TyOf K H (.int i) (.type "int")
  | str (x : Str) : TyOf K H (.str x) (.type "str")
  | flt (x : UInt64) : TyOf K H (.flt x) (.type "float")
  | lst {a : Addr} {xs : List V} (e : H a = some (.lst xs)) : TyOf K H (.ref a) (.type "list")
  | frz {a : Addr} {o : Obj} {xs : List V} (e : H a = some (.frz o (.lst xs))) : TyOf K H (.ref a) (.type "list")
  | tup {a : Addr} {xs : List V} (e : H a = some (.tup xs)) : TyOf K H (.ref a) (.type "tuple")
  | dK {a : Addr} {kvs : List (Key × V)} (e : H a = some (.dK kvs)) : TyOf K H (.ref a) (.type "dict")
  | dT {a : Addr} {kvs : List (List Key × V)} (e : H a = some (.dT kvs)) : TyOf K H (.ref a) (.type "dict")
  | ins {a C dx : Addr} {fs : List (Str × V)} (e : H a = some (.ins C dx fs)) (cl : Cls K C) (ha : PySem.W.findIn K (.ref C) "__class__" = some (some (.builtin "object.__class__")))
      (hn : PySem.W.specialIn K (.builtin "object.__class__") "__get__" = some (some (.builtin "getset_descriptor.__get__"))) (htk : PySem.W.takesIn K (.builtin "object.__class__") = some true)
      (hm : PySem.W.mroIn K C (.type "object") = some true) : TyOf K H (.ref a) (.ref C)
end
end L2

namespace L2
open PySem PySem.Spec PyProof.Rows

/-! ### room -/
structure Room (k : Nat) (A : Around) : Prop where
  hd : A.handled = none
  dp : A.depth + 3 * k + 5 < recursionLimit
  un : A.units + 16 * k + 200 < cLine
theorem Room.mono {j k : Nat} {A : Around} (r : Room k A) (h : j ≤ k) : Room j A := ⟨r.hd, by have := r.dp; omega, by have := r.un; omega⟩
theorem Room.deeper {k : Nat} {A : Around} (r : Room (k + 1) A) (env : Env) : Room k (A.deeper env) :=
  ⟨r.hd, by have := r.dp; show A.depth + 1 + 3 * k + 5 < _; omega, by have := r.un; show A.units + 3 + 16 * k + 200 < _; omega⟩
theorem Room.depth {k : Nat} {A : Around} (r : Room k A) : A.depth < recursionLimit := by have := r.dp; omega
/-! ### argument lists and displays -/
def tNil : TA := fun _ H Q => Q [] H
def tCons (ta : TE) (tr : TA) : TA := fun σ H Q => ta σ H fun x H1 => tr σ H1 fun xs H2 => Q (x :: xs) H2
section
variable {X : Cx} {e : Expr} {es : List Expr} {te : TE} {t : TA} {pos : Pos}
theorem pa_nil : PA X [] tNil := fun _ _ _ _ H Q I h => Calls.spliced_nil ⟨[], H, I, .nil, h⟩
theorem pa_cons (ha : PE X e te) (hr : PA X es t) (hs : starEach (e :: es) X.env = (false, eval e X.env) :: starEach es X.env := by rfl) : PA X (e :: es) (tCons te t) := by
  intro pos pins s σ H Q I h
  rw [hs]
  show wpAny _ _ (spliced ((false, eval e X.env) :: backTo pos (starEach es X.env))) _ _ s
  refine Calls.spliced_cons (thn (ha pins s σ H _ I h) fun u s1 ⟨x, H1, I1, r1, q1⟩ => ?_)
  exact thn (hr pos pins s1 σ H1 _ I1 q1) fun us s2 ⟨xs, H2, I2, r2, q2⟩ => ⟨x :: xs, H2, I2, .cons r1 r2, q2⟩

/-- a tuple, a list of written items -/
def tTup (t : TA) : TE := fun σ H Q => t σ H fun xs H1 => xs.length ≤ sizeLine ∧ ∀ p, H1 p = none → Q (.ref p) (upd H1 p (.tup xs))
def tLst (t : TA) : TE := fun σ H Q => t σ H fun xs H1 => xs.length ≤ sizeLine ∧ ∀ p, H1 p = none → Q (.ref p) (upd H1 p (.lst xs))
theorem pe_tup {x1} (h : PA X es t) : PE X (.Tuple es x1 pos) (tTup t) := by
  intro pins s σ H Q I hq
  refine wpAny_Tuple_spliced (thn (h pos pins s σ H _ I hq) fun us s1 ⟨xs, H1, I1, r, z, q⟩ => ⟨by rw [← r.length]; exact z, ?_⟩)
  have hf : H1 s1.heap.objs.size = none := I1.hok.fresh (Nat.le_refl _)
  refine ⟨.ref s1.heap.objs.size, upd H1 s1.heap.objs.size (.tup xs), I1.laid (t' := s1.toks) (fun b u e => Heap.get?_push_of_some _ e) (Nat.le_refl _) ?_, rfl, q _ hf⟩
  exact ⟨z, us, r, ⟨_, Heap.get?_push_size _ rfl, rfl, _, rfl⟩⟩
theorem pe_lst (h : PA X es t) : PE X (.List es pos) (tLst t) := by
  intro pins s σ H Q I hq
  refine wpAny_List_spliced (thn (h pos pins s σ H _ I hq) fun us s1 ⟨xs, H1, I1, r, z, q⟩ => ⟨by rw [← r.length]; exact z, ?_⟩)
  have hf : H1 s1.heap.objs.size = none := I1.hok.fresh (Nat.le_refl _)
  refine ⟨.ref s1.heap.objs.size, upd H1 s1.heap.objs.size (.lst xs), I1.laid (t' := s1.toks) (fun b u e => Heap.get?_push_of_some _ e) (Nat.le_refl _) ?_, rfl, q _ hf⟩
  exact ⟨z, us, 0, r, Heap.get?_push_size _ rfl⟩
end

/-! ### what a def promises -/
/-- a def's promise: the bound arguments in the parameters' order, the heap, the wanted end, the wanted exception -/
abbrev Sp := List V → Hp → VK → XK → Prop
/-- how an exception lies behind a call (file 08 gives it): the callers' frames, abstract heap and state ahead of the call, the wish, the exception, the state -/
abbrev CXT := List Env → Hp → Shared → XK → Value → Shared → Prop

/-- the state at a call -/
structure Env0 (P : Program) (w : World) (K : PySem.W.Frag) (mg : Str → Option Value) (base : Heap) (A : Around) (outer : List Env) (s : Shared) (H : Hp) : Prop where
  frames : A.frames = some outer
  mod : Mod K mg base
  bs : ∀ b o, base.get? b = some o → s.heap.get? b = some o ∧ H b = none
  bsz : base.objs.size ≤ s.heap.objs.size
  funs : s.heap.FunFrames base outer
  frf : ∀ b ∈ frs outer, H b = none
  hok : HOk P w H s.heap
  bare : AllBare s.gens
/-- a call's end -/
def CE (outer : List Env) (P : Program) (w : World) (H : Hp) (s : Shared) (Q : VK) (u : Value) (s' : Shared) : Prop :=
  ∃ v H', s'.os = s.os ∧ AllBare s'.gens ∧ Un (frs outer) [] H H' s.heap s'.heap ∧ HOk P w H' s'.heap ∧ RelV v u ∧ Q v H'
def CR (CX : CXT) (outer : List Env) (P : Program) (w : World) (H : Hp) (s : Shared) (Q : VK) (E : XK) (r : Result) (s' : Shared) : Prop :=
  match r with
  | .ok (.ret u) => CE outer P w H s Q u s'
  | .ok _ => False
  | .error e => CX outer H s E e s'
structure FnOk (P : Program) (w : World) (K : PySem.W.Frag) (mg : Str → Option Value) (base : Heap) (CX : CXT) (k : Nat) (f : Addr) (fd : FuncData) (ps : List Str) (sp : Sp) : Prop where
  len : ∀ vs H Q E, sp vs H Q E → vs.length = ps.length
  run : ∀ (A : Around) (outer : List Env) (s : Shared) (H : Hp) (args : Args) (us : List Value) (vs : List V) (Q : VK) (E : XK), Room k A → Env0 P w K mg base A outer s H → BindsTo s fd args (ps.zip us) → Vals vs us → sp vs H Q E →
    codeAny (model P w) A (.call (.ref f) args) (CR CX outer P w H s Q E) s
section
variable {X : Cx} {pins : List (Addr × Obj)} {σ : St} {H : Hp} {s s' : Shared}
/-- from a body: what a callee wants -/
theorem Inv.env0 (I : Inv X pins σ H s) : Env0 X.prog X.w X.K X.mg X.base X.A X.stack s H :=
  ⟨I.ok.frames, I.ok.mod, I.bs, Nat.le_trans I.ok.bsz I.sz, I.stack, I.stkFree, I.hok, I.bare⟩
/-- behind a call -/
theorem Inv.after {Q : VK} {u : Value} (I : Inv X pins σ H s) (h : CE X.stack X.prog X.w H s Q u s') : EP X pins σ Q u s' := by
  obtain ⟨v, H', os, bare, un, hok, r, q⟩ := h
  obtain ⟨hh, g, d, t, os'⟩ := s'
  obtain rfl : os' = s.os := os
  exact ⟨v, H', I.call (h' := hh) (g' := g) (d' := d) (t' := t) (ch := []) un hok bare (fun b z => absurd z (by simp)), r, q⟩
end

/-! ### calls -/
/-- f(..): the written arguments, then the defaults dvs; E: what is wanted of an exception -/
def tCall (sp : Sp) (dvs : List V) (E : XK) (t : TA) : TE := fun σ H Q => t σ H fun vs H1 => sp (vs ++ dvs) H1 Q E
/-- how the parameters are bound: us the positional arguments, kw the keywords' values by name, ds the defaults that fill up -/
def Binds (K : PySem.W.Frag) (fd : FuncData) (ps : List Str) (ds : List Value) : Prop :=
  ∀ (s : Shared) (us : List Value), K.In s.heap → (us ++ ds).length = ps.length → BindsTo s fd ⟨us, []⟩ (ps.zip (us ++ ds))
/-- every parameter is given -/
theorem Binds.all {K : PySem.W.Frag} {fd : FuncData} {ps : List Str} (h : ∀ us : List Value, us.length = ps.length → bindArgs fd ⟨us, []⟩ = pure (ps.zip us)) : Binds K fd ps [] := fun s us _ hl => by
  rw [List.append_nil] at hl ⊢
  exact .of_eq (h us hl)

/-- an exception of a callee reaches what this body wants of exceptions -/
def Passes (CX : CXT) (X : Cx) (E : XK) : Prop := ∀ (pins : List (Addr × Obj)) (σ : St) (H : Hp) (s : Shared) (e : Value) (s' : Shared), Inv X pins σ H s → CX X.stack H s E e s' → X.xe e s'

section
variable {X : Cx} {CX : CXT} {k : Nat} {f C : Addr} {fd : FuncData} {ps : List Str} {sp : Sp} {dvs : List V} {ds : List Value} {E : XK} {x m : Str} {p pos apos : Pos} {e o : Expr} {es : List Expr} {ta : TE} {t : TA}

/-- the callee runs -/
theorem run_fn {pins : List (Addr × Obj)} {σ : St} {H : Hp} {s : Shared} {Q : VK} {us : List Value} {vs : List V} (F : FnOk X.prog X.w X.K X.mg X.base CX k f fd ps sp) (hr : Room k X.A) (hb : Binds X.K fd ps ds) (hd : Vals dvs ds) (hx : Passes CX X E)
    (I : Inv X pins σ H s) (r : Vals vs us) (h : sp (vs ++ dvs) H Q E) : wpAny (model X.prog X.w) X.A (call (.ref f) us) (EP X pins σ Q) X.xe s := by
  have r2 : Vals (vs ++ dvs) (us ++ ds) := r.append hd
  have hl : (us ++ ds).length = ps.length := by rw [← r2.length]; exact F.len _ _ _ _ h
  refine wpAny_call (codeAny_mono (F.run X.A X.stack s H ⟨us, []⟩ (us ++ ds) (vs ++ dvs) Q E hr I.env0 (hb s us I.kIn hl) r2 h) fun r s' hq => ?_)
  cases r with
  | error e => exact hx pins σ H s e s' I hq
  | ok fl =>
    cases fl with
    | ret u => exact I.after hq
    | next => exact False.elim hq
    | brk => exact False.elim hq
    | cont => exact False.elim hq

theorem pe_call (F : FnOk X.prog X.w X.K X.mg X.base CX k f fd ps sp) (hr : Room k X.A) (hg : Gl X x) (hm : X.mg x = some (.ref f)) (hk : PySem.W.keepIn X.K (.ref f) = true) (hb : Binds X.K fd ps ds) (hd : Vals dvs ds) (hx : Passes CX X E)
    (ha : PA X (e :: es) t) (hdb : (x == ("__debug__" : Str)) = false := by decide) (he : starEach (e :: es) X.env = (false, eval e X.env) :: starEach es X.env := by rfl) (hpl : (backTo pos (starEach es X.env)).any (·.1) = false := by rfl) :
    PE X (.Call (.Name x p) (e :: es) [] pos) (tCall sp dvs E t) := by
  intro pins s σ H Q I h
  refine wpAny_Call_Name_kw (ld_glob I hg hm ?_ hdb)
  refine PySem.W.callWith_K (h₀ := X.base) I.ok.mod.kin hk (thn (ha pos pins s σ H _ I h) fun us s1 ⟨vs, H1, I1, r, q⟩ => ⟨I1.kIn, ?_⟩) he hpl
  exact run_fn F hr hb hd hx I1 r q
/-- what a class must have to be made -/
structure Mk (K : PySem.W.Frag) (C f : Addr) : Prop where
  makes : PySem.W.makesIn K C = true
  init : PySem.W.findIn K (.ref C) "__init__" = some (some (.ref f))
  fn : PySem.W.isFn K (.ref f) = true
  kp : PySem.W.keepIn K (.ref C) = true

end

/-! ### keywords -/
/-- the values of the keywords, from the left -/
def PK (X : Cx) (kws : List Keyword) (t : TA) : Prop :=
  ∀ (pos : Pos) (pins : List (Addr × Obj)) (s : Shared) (σ : St) (H : Hp) (Q : List V → Hp → Prop), Inv X pins σ H s → t σ H Q → wpAny (model X.prog X.w) X.A (evalAll ((backToKw pos (keywordEach kws X.env)).map (·.2))) (AP X pins σ Q) X.xe s
section
variable {X : Cx} {CX : CXT} {k : Nat} {f C : Addr} {fd : FuncData} {ps ks : List Str} {sp : Sp} {E : XK} {x m : Str} {p pos apos kpos : Pos} {e o : Expr} {es : List Expr} {kws : List Keyword} {te ta : TE} {t tk : TA} {nm : Option Str}
theorem pk_nil : PK X [] tNil := fun _ _ _ _ H Q I h => wpAny_evalAll_nil ⟨[], H, I, .nil, h⟩
theorem pk_cons (ha : PE X e te) (hr : PK X kws t) : PK X (⟨nm, e, kpos⟩ :: kws) (tCons te t) := by
  intro pos pins s σ H Q I h
  show wpAny _ _ (evalAll ((do let v ← eval e X.env; standAt pos; pure v) :: (backToKw pos (keywordEach kws X.env)).map (·.2))) _ _ s
  refine wpAny_evalAll_cons (wpAny_bind (thn (ha pins s σ H _ I h) fun u s1 ⟨x, H1, I1, r1, q1⟩ => wpAny_bind (wpAny_standAt (wpAny_pure ?_))))
  exact thn (hr pos pins s1 σ H1 _ I1 q1) fun us s2 ⟨xs, H2, I2, r2, q2⟩ => ⟨x :: xs, H2, I2, .cons r1 r2, q2⟩

/-- how a call with keywords binds: g puts the positional values us and the keywords' values ws (names ks) in the parameters' order, defaults among them -/
structure KBinds (K : PySem.W.Frag) (fd : FuncData) (ps ks : List Str) (g : List Value → List Value → List Value) (gV : List V → List V → List V) : Prop where
  to : ∀ (s : Shared) (us ws : List Value), K.In s.heap → (g us ws).length = ps.length → BindsTo s fd ⟨us, ks.zip ws⟩ (ps.zip (g us ws))
  rel : ∀ {vs : List V} {us : List Value} {zs : List V} {ws : List Value}, Vals vs us → Vals zs ws → Vals (gV vs zs) (g us ws)
variable {g : List Value → List Value → List Value} {gV : List V → List V → List V}
end

/-! ### a def's body keeps its promise -/
/-- names: the parameters first -/
structure FnScope (N P : List Str) (sc : Scope) : Prop where
  kind : sc.kind = .function
  co : sc.isCoroutine = false
  gen : sc.isGenerator = false
  nd : N.Nodup
  pre : N.take P.length = P
  par : ∀ x ∈ P, sc.names.lookup x = some .local ∨ sc.names.lookup x = some .cell
  nofree : ∀ y ∈ sc.names, y.2 ≠ .free

theorem bindL_out {kindOf : Str → Option NameKind} {x : Str} : ∀ {binds : List (Str × Value)} {m : Str → Option Value}, (∀ v, (x, v) ∉ binds) → bindL kindOf binds m x = m x
  | [], _, _ => rfl
  | (n, v) :: r, m, h => by
    unfold bindL
    rw [bindL_out fun w hw => h w (List.mem_cons_of_mem _ hw)]
    split
    · have : x ≠ n := by rintro rfl; exact h v List.mem_cons_self
      simp [this]
    · rfl
theorem bindC_out {kindOf : Str → Option NameKind} {x : Str} : ∀ {binds : List (Str × Value)} {m : Str → Option Value}, (∀ v, (x, v) ∉ binds) → bindC kindOf binds m x = m x
  | [], _, _ => rfl
  | (n, v) :: r, m, h => by
    unfold bindC
    rw [bindC_out fun w hw => h w (List.mem_cons_of_mem _ hw)]
    split
    · rfl
    · have : x ≠ n := by rintro rfl; exact h v List.mem_cons_self
      simp [this]
theorem bindL_get {kindOf : Str → Option NameKind} {x : Str} {v : Value} : ∀ {P : List Str} {vs : List Value} {i : Nat} {m : Str → Option Value}, P.Nodup → P[i]? = some x → vs[i]? = some v → kindOf x = some .local →
    bindL kindOf (P.zip vs) m x = some v
  | [], _, _, _, _, h, _, _ => by simp at h
  | _ :: _, [], _, _, _, _, h, _ => by simp at h
  | p :: P, w :: vs, 0, m, nd, h1, h2, hk => by
    simp at h1 h2; subst h1; subst h2
    show bindL kindOf ((p, w) :: P.zip vs) m p = _
    unfold bindL
    rw [bindL_out fun v hv => (List.nodup_cons.mp nd).1 (List.of_mem_zip hv).1, if_pos hk]
    simp
  | p :: P, w :: vs, i + 1, m, nd, h1, h2, hk => by
    show bindL kindOf ((p, w) :: P.zip vs) m x = _
    unfold bindL
    exact bindL_get (i := i) (List.nodup_cons.mp nd).2 (by simpa using h1) (by simpa using h2) hk
theorem bindC_get {kindOf : Str → Option NameKind} {x : Str} {v : Value} : ∀ {P : List Str} {vs : List Value} {i : Nat} {m : Str → Option Value}, P.Nodup → P[i]? = some x → vs[i]? = some v → kindOf x ≠ some .local →
    bindC kindOf (P.zip vs) m x = some v
  | [], _, _, _, _, h, _, _ => by simp at h
  | _ :: _, [], _, _, _, _, h, _ => by simp at h
  | p :: P, w :: vs, 0, m, nd, h1, h2, hk => by
    simp at h1 h2; subst h1; subst h2
    show bindC kindOf ((p, w) :: P.zip vs) m p = _
    unfold bindC
    rw [bindC_out fun v hv => (List.nodup_cons.mp nd).1 (List.of_mem_zip hv).1, if_neg hk]
    simp
  | p :: P, w :: vs, i + 1, m, nd, h1, h2, hk => by
    show bindC kindOf ((p, w) :: P.zip vs) m x = _
    unfold bindC
    exact bindC_get (i := i) (List.nodup_cons.mp nd).2 (by simpa using h1) (by simpa using h2) hk

/-- the names' values at the entry -/
def start (N : List Str) (vs : List V) : St := vs.map some ++ List.replicate (N.length - vs.length) none

/-- the context of a def's body, at its entry; an exception leaves the frame, then lies as CX says -/
def cxOf (CX : CXT) (P : Program) (w : World) (K : PySem.W.Frag) (mg : Str → Option Value) (base : Heap) (N : List Str) (qual : Str) (scope : Scope) (f : Addr) (cd : Value) (A : Around) (outer : List Env) (s : Shared) (H : Hp) (E : XK) : Cx where
  prog := P
  w := w
  K := K
  mg := mg
  base := base
  A := A.deeper (envOfC qual scope s.heap.objs.size f cd)
  N := N
  s_0 := s
  H_0 := H
  env := envOfC qual scope s.heap.objs.size f cd
  outer := outer
  stack := envOfC qual scope s.heap.objs.size f cd :: outer
  ex := []
  calm := true
  fn := fun _ => true
  pn := []
  xe := fun e s' => wpAny (model P w) (A.deeper (envOfC qual scope s.heap.objs.size f cd)) (leaving (envOfC qual scope s.heap.objs.size f cd) e) (fun _ s'' => CX outer H s E e s'') (fun e' s'' => CX outer H s E e' s'') s'

theorem cell_has {sc : Scope} {n : Nat} {x : Str} (h : sc.names.lookup x = some .cell) : ∃ c, (cellsFrom n sc.names []).lookup x = some c := by
  have q := PySem.W.cellsFrom_some sc.names n [] (.inl h)
  exact Option.isSome_iff_exists.mp q

theorem inv_start {CX : CXT} {P : Program} {w : World} {K : PySem.W.Frag} {mg : Str → Option Value} {base : Heap} {N ps : List Str} {qual : Str} {scope : Scope} {f : Addr} {cd : Value} {A : Around} {outer : List Env} {s s1 : Shared} {H : Hp} {E : XK} {us : List Value} {vs : List V}
    (S : FnScope N ps scope) (hd : A.handled = none) (e0 : Env0 P w K mg base A outer s H) (hl : vs.length = ps.length) (r : Vals vs us)
    (x : InCallC s s.heap.objs.size (bindL (envOfC qual scope s.heap.objs.size f cd).kindOf (ps.zip us) fun _ => none) (cellsFrom (s.heap.objs.size + 1) scope.names []) (bindC (envOfC qual scope s.heap.objs.size f cd).kindOf (ps.zip us) fun _ => none) s1) :
    Inv (cxOf CX P w K mg base N qual scope f cd A outer s H E) [] (start N vs) H s1 := by
  have hpl : ps.length ≤ N.length := by have := congrArg List.length S.pre; rw [List.length_take] at this; omega
  obtain ⟨h1, tk, rfl, hk⟩ := x.done
  have noA : ∀ b : Addr, b ∉ (cxOf CX P w K mg base N qual scope f cd A outer s H E).ex := fun b z => absurd (show b ∈ ([] : List Addr) from z) (by simp)
  refine ⟨⟨e0.mod, S.kind, rfl, rfl, Nat.le_refl _, fun y z c h1 h2 => ?_, fun y hy => ?_, fun y c _ h => ?_, fun _ => hd, Around.frames_deeper e0.frames, .inr ⟨rfl, rfl⟩, fun b z => absurd z (noA b), e0.bs, e0.bsz, fun b _ _ => noA b, fun b z => absurd z (noA b), e0.funs, e0.frf⟩,
    rfl, e0.bare, Un.kept hk, ⟨_, x.toInCall.ns, fun i y v h1 h2 h3 => ?_⟩, fun y c h => ⟨_, x.cell y c h⟩, e0.hok.fresh (Nat.le_refl _), fun y c h => ?_, fun p hp => absurd (show p ∈ ([] : List (Addr × Obj)) from hp) (by simp), e0.hok.kept hk, ?_⟩
  · exact name_of_addr x.apart (PySem.mem_of_lookup h1) (PySem.mem_of_lookup h2)
  · have hy : scope.names.lookup y = some .cell ∨ scope.names.lookup y = some .free := hy
    rcases hy with hy | hy
    · exact cell_has hy
    · exact absurd rfl (S.nofree _ (PySem.mem_of_lookup hy))
  · exact Nat.le_of_lt (x.above y c (PySem.mem_of_lookup h))
  · have hi : i < vs.length := by
      unfold start at h2
      by_cases hi : i < vs.length
      · exact hi
      · rw [List.getElem?_append_right (by simpa using hi)] at h2
        rw [List.getElem?_replicate] at h2
        split at h2 <;> cases h2
    have ha : vs[i]? = some v := by
      unfold start at h2
      rw [List.getElem?_append_left (by simpa using hi), List.getElem?_map] at h2
      cases e : vs[i]? with
      | none => rw [e] at h2; cases h2
      | some a => rw [e] at h2; cases h2; rfl
    obtain ⟨u, hu, rv⟩ := r.get ha
    have hp : ps[i]? = some y := by
      rw [← S.pre, List.getElem?_take_of_lt (by omega)]; exact h1
    have ndP : ps.Nodup := by rw [← S.pre]; exact S.nd.sublist (List.take_sublist _ _)
    refine ⟨u, rv, ?_⟩
    rcases S.par y (List.mem_of_getElem? hp) with k | k
    · exact .inl ⟨k, bindL_get ndP hp hu k⟩
    · obtain ⟨c, e⟩ := cell_has (n := s.heap.objs.size + 1) k
      refine .inr ⟨.inl k, c, e, ?_⟩
      have q := x.cell y c e
      rw [bindC_get ndP hp hu (by show scope.names.lookup y ≠ _; rw [k]; decide)] at q
      exact q
  · exact e0.hok.fresh (Nat.le_of_lt (x.above y c (PySem.mem_of_lookup h)))
  · unfold start
    show _ = N.length
    rw [List.length_append, List.length_map, List.length_replicate]
    omega

/-- THE RULE: a def (or a method) of the text, by its body. The body's reading t is chosen for each entry; it is run at the parameters' values -/
theorem fn_of {CX : CXT} {P : Program} {w : World} {K : PySem.W.Frag} {mg : Str → Option Value} {base : Heap} {k : Nat} {f : Addr} {name qual : Str} {params : Arguments} {body : List Stmt} {scope : Scope} {dV kV doc pm cdv ct oc : Value} {an od : Option Addr}
    {osl : Array (Option Value)} {N ps : List Str} {sp : Sp} (lk : K.lookup f = some ⟨oc, od, .func (PySem.W.fnOf name qual params body scope dV kV doc pm an cdv ct), osl⟩) (hcd : PySem.W.codeIn K cdv qual = true) (S : FnScope N ps scope)
    (len : ∀ vs H Q E, sp vs H Q E → vs.length = ps.length)
    (hbody : ∀ (A : Around) (outer : List Env) (s : Shared) (H : Hp) (vs : List V) (Q : VK) (E : XK), Room k (A.deeper (envOfC qual scope s.heap.objs.size f cdv)) → sp vs H Q E →
      ∃ t, PSs (cxOf CX P w K mg base N qual scope f cdv A outer s H E) body t ∧ t { nx := fun _ H' => Q .non H', rt := Q } (start N vs) H) :
    FnOk P w K mg base CX (k + 1) f (PySem.W.fnOf name qual params body scope dV kV doc pm an cdv ct) ps sp := by
  refine ⟨len, fun A outer s H args us vs Q E hr e0 hb r hsp => ?_⟩
  have hl := len _ _ _ _ hsp
  have KX : K.In s.heap := e0.mod.kin.keeps fun b o e => (e0.bs b o e).1
  have lim : s.heap.NoLimit := e0.mod.nolimit.keeps fun b o e => (e0.bs b o e).1
  have hkind : ∀ y ∈ ps.zip us, scope.names.lookup y.1 = some .local ∨ (scope.names.lookup y.1 = some .cell ∧ ((cellsFrom (s.heap.objs.size + 1) scope.names []).lookup y.1).isSome = true) := fun ⟨n, v⟩ hy => by
    rcases S.par n (List.of_mem_zip hy).1 with q | q
    · exact .inl q
    · exact .inr ⟨q, PySem.W.cellsFrom_some _ _ _ (.inl q)⟩
  refine codeAny_call_function hr.depth (KX _ _ lk) rfl S.co S.gen rfl (PySem.W.codeRec_of KX hcd) (hb _ _ _ _ ?_)
  refine wpAny_newFunctionEnv_cells S.kind hkind fun env he s1 x => ?_
  subst he
  refine ⟨lim.keeps x.toInCall.keep, codeAny_func ?_⟩
  obtain ⟨t, ht, hq⟩ := hbody A outer s H vs Q E (hr.deeper _) hsp
  have I : Inv (cxOf CX P w K mg base N qual scope f cdv A outer s H E) [] (start N vs) H s1 := inv_start S hr.hd e0 hl r x
  refine wpAny_mono (ht [] s1 (start N vs) H _ I hq) (fun fl s' hs => ?_) fun e s' hs => hs
  have fin : ∀ {σ' : St} {H' : Hp} {v : V} {u : Value}, Inv (cxOf CX P w K mg base N qual scope f cdv A outer s H E) [] σ' H' s' → RelV v u → Q v H' → CE outer P w H s Q u s' :=
    fun {σ' H' v u} J rv q => ⟨v, H', J.os, J.bare, J.base, J.hok, rv, q⟩
  cases fl with
  | ret u =>
    obtain ⟨v, σ', H', J, rv, q⟩ := hs
    exact fin J rv q
  | next =>
    obtain ⟨σ', H', J, q⟩ := hs
    exact fin (v := V.non) (u := Value.none) J rfl q
  | brk =>
    obtain ⟨_, _, _, q⟩ := hs
    exact False.elim q
  | cont =>
    obtain ⟨_, _, _, q⟩ := hs
    exact False.elim q
end L2

namespace L2
open PySem PySem.Spec PyProof.Rows
section
variable {X : Cx} {x : Str} {p pos : Pos} {e : Expr} {es : List Expr} {t : TA} {id T : String} {r : List V → Hp → VK → Prop}

def tCB (r : List V → Hp → VK → Prop) (t : TA) : TE := fun σ H Q => t σ H fun vs H1 => r vs H1 Q
/-- f(e, ..), f a built-in function -/
theorem pe_callB (hc : CallR X (.builtin id) r) (hg : Gl X x) (hm : X.mg x = none) (hv : bootBuiltins x = some (.builtin id)) (ha : PA X (e :: es) t) (hn : x ≠ "__name__" := by decide) (hdb : (x == ("__debug__" : Str)) = false := by decide)
    (he : starEach (e :: es) X.env = (false, eval e X.env) :: starEach es X.env := by rfl) (hpl : (backTo pos (starEach es X.env)).any (·.1) = false := by rfl) : PE X (.Call (.Name x p) (e :: es) [] pos) (tCB r t) := by
  intro pins s σ H Q I h
  refine wpAny_Call_Name_kw (ld_blt I hg hm hv ?_ hn hdb)
  exact PyProof.Rows.callWith_builtin1 (thn (ha pos pins s σ H _ I h) fun us s1 ⟨vs, H1, I1, r1, q1⟩ => hc pins s1 σ H1 vs us Q I1 r1 q1) he hpl
/-- T(e, ..), T a built-in type -/
theorem pe_callTy (hc : CallR X (.type T) r) (hg : Gl X x) (hm : X.mg x = none) (hv : bootBuiltins x = some (.type T)) (ha : PA X (e :: es) t) (hn : x ≠ "__name__" := by decide) (hdb : (x == ("__debug__" : Str)) = false := by decide)
    (he : starEach (e :: es) X.env = (false, eval e X.env) :: starEach es X.env := by rfl) (hpl : (backTo pos (starEach es X.env)).any (·.1) = false := by rfl) : PE X (.Call (.Name x p) (e :: es) [] pos) (tCB r t) := by
  intro pins s σ H Q I h
  refine wpAny_Call_Name_kw (ld_blt I hg hm hv ?_ hn hdb)
  exact PyProof.Rows.callWith_type1 (thn (ha pos pins s σ H _ I h) fun us s1 ⟨vs, H1, I1, r1, q1⟩ => hc pins s1 σ H1 vs us Q I1 r1 q1) he hpl
end
end L2

namespace HT
open PySem PyProof.Rows

section
open PySem.SeqAt
open PySem.AutoSeq1 (wpAny_loadPart')
open PySem.MeetsSeq PySem.MeetsSeq2 PySem.MeetsSeq3

end

section
variable {prog : Program} {w : World} {A : Around} {E : Value → Shared → Prop} {s : Shared}

/-! ### t[a:b], not the whole -/
end
end HT

namespace L2
open PySem PySem.Spec PyProof.Rows

/-! ### the parts of a slice -/
section
variable {X : Cx} {e : Expr} {te : TE} {lo hi : Option Expr} {tl th : TO} {pos p2 : Pos}

/-! ### t < u, t + u -/
end
end L2

namespace L2
open PySem PySem.Spec PyProof.Rows

/-! ### places -/
/-- the place that an index of any sign means -/
def ixN (n : Nat) (i : Int) : Option Nat := if 0 ≤ i then (if i < n then some i.toNat else none) else if -(n : Int) ≤ i then some (i + n).toNat else none
def atI {α : Type} (xs : List α) (i : Int) : Option α := (ixN xs.length i).bind fun j => xs[j]?
theorem ixN_seq {n : Nat} {i : Int} {j : Nat} (h : ixN n i = some j) : seqIndex? i n = some j ∧ j < n ∧ -(n : Int) ≤ i ∧ i < n := by
  unfold ixN at h
  by_cases h0 : 0 ≤ i
  · rw [if_pos h0] at h
    by_cases h1 : i < n
    · rw [if_pos h1] at h
      have e : i.toNat = j := Option.some.inj h
      exact ⟨by rw [seqIndex_of h0 h1, e], by omega, by omega, h1⟩
    · rw [if_neg h1] at h; cases h
  · rw [if_neg h0] at h
    by_cases h1 : -(n : Int) ≤ i
    · rw [if_pos h1] at h
      have e : (i + n).toNat = j := Option.some.inj h
      exact ⟨by rw [seqIndex_neg (by omega) h1, e], by omega, h1, by omega⟩
    · rw [if_neg h1] at h; cases h
theorem atI_get {α : Type} {xs : List α} {i : Int} {v : α} (h : atI xs i = some v) : ∃ j, seqIndex? i xs.length = some j ∧ xs[j]? = some v ∧ j < xs.length ∧ -(xs.length : Int) ≤ i ∧ i < xs.length := by
  unfold atI at h
  cases e : ixN xs.length i with
  | none => rw [e] at h; cases h
  | some j =>
    rw [e] at h
    obtain ⟨h1, h2, h3, h4⟩ := ixN_seq e
    exact ⟨j, h1, h, h2, h3, h4⟩
theorem atI_nat {α : Type} {xs : List α} {j : Nat} {v : α} (h : xs[j]? = some v) : atI xs (j : Int) = some v := by
  have hj : j < xs.length := (List.getElem?_eq_some_iff.mp h).1
  have e : ixN xs.length (j : Int) = some j := by
    unfold ixN
    rw [if_pos (by omega), if_pos (by omega)]; simp
  unfold atI; rw [e]; exact h
/-! ### what may be subscripted -/
/-- what stands as an index of a plain subscript -/
def PlainIx (b : Expr) : Prop := ∀ o i, subscripted b false o i = operate [o, i] (getItem o i)
/-- a subscript by values -/
def IxR (X : Cx) (r : R2) : Prop :=
  ∀ (value slice : Expr) (pins : List (Addr × Obj)) (s : Shared) (σ : St) (H : Hp) (x y : V) (v u : Value) (Q : VK), Inv X pins σ H s → RelV x v → RelV y u → r x y H Q →
    subscripted slice false v u = operate [v, u] (getItem v u) → wpAny (model X.prog X.w) X.A (subscriptTail value slice v u) (EP X pins σ Q) X.xe s
/-- a call of a builtin's method by values: the receiver, the arguments -/
def MtR (X : Cx) (id : String) (r : V → List V → Hp → VK → Prop) : Prop :=
  ∀ (pins : List (Addr × Obj)) (s : Shared) (σ : St) (H : Hp) (x : V) (xs : List V) (v : Value) (us : List Value) (Q : VK), Inv X pins σ H s → RelV x v → Vals xs us → r x xs H Q →
    wpAny (model X.prog X.w) X.A (call (.builtin id) (v :: us)) (EP X pins σ Q) X.xe s
section
variable {X : Cx} {a b : Expr} {ta tb : TE} {pos : Pos}
/-- a[b] -/
theorem pe_ix {r : R2} (hr : IxR X r) (ha : PE X a ta) (hb : PE X b tb) (hs : PlainIx b) : PE X (.Subscript a b pos) (tOp r ta tb) := by
  intro pins s σ H Q I h
  exact Subscript_ (binT ha hb I h fun v u s2 x y H2 I2 rx ry q => hr a b pins s2 σ H2 x y v u Q I2 rx ry q (hs _ _))

def rIxL (K : PySem.W.Frag) : R2 := fun x y H Q => ∃ p xs i v, x = .ref p ∧ y = .int i ∧ SqL K H p xs ∧ atI xs i = some v ∧ Q v H
theorem ix_list : IxR X (rIxL X.K) := by
  intro value slice pins s σ H x y v u Q I rx ry h hs
  obtain ⟨p, xs, i, z, rfl, rfl, hq, he, q⟩ := h
  cases rx
  obtain ⟨t, rfl⟩ := ry
  obtain ⟨its, r, pl, hz⟩ := I.list hq
  obtain ⟨j, h1, h2, h3, h4, h5⟩ := atI_get he
  obtain ⟨w, ew, rw'⟩ := r.get h2
  have hl := r.length
  have hn := line63
  have fin : EP X pins σ Q w s := ⟨z, H, I, rw', q⟩
  by_cases h0 : 0 ≤ i
  · have hj : i.toNat = j := by
      rw [seqIndex_of h0 h5] at h1
      exact Option.some.inj h1
    exact item_listR pl.isList h0 (by omega) (by rw [hj]; simpa using ew) fin hs
  · have hj : (i + (its.toArray.size : Int)).toNat = j := by
      rw [seqIndex_neg (by omega) h4] at h1
      rw [List.size_toArray, ← hl]
      exact Option.some.inj h1
    exact subscriptTail_builtinR (x := w) pl.isList.typeIs slot_list_getitem.lookup
      (wpAny_getItem_list_neg (Q := fun r s' => r = w ∧ EP X pins σ Q r s') pl.isList (by omega) (by rw [List.size_toArray] <;> omega) (by omega) (by rw [hj]; simpa using ew) ⟨rfl, fin⟩) hs
/-! ### xs[i] = v, any sign -/
/-- the list's object behind a store -/
theorem mapSeq_set (its : List Value) (n j : Nat) (u : Value) : Obj.mapSeq (·.setIfInBounds j u) { cls := .type "list", data := .seq its.toArray n } = { cls := .type "list", data := .seq (its.set j u).toArray n } := by
  simp [Obj.mapSeq]
theorem Inv.lst {pins : List (Addr × Obj)} {σ : St} {H : Hp} {s : Shared} {p : Addr} {xs : List V} (I : Inv X pins σ H s) (h : H p = some (.lst xs)) :
    ∃ (its : List Value) (n : Nat), Vals xs its ∧ s.heap.get? p = some { cls := .type "list", data := .seq its.toArray n } ∧ xs.length ≤ sizeLine := by
  obtain ⟨z, its, n, r, e⟩ := I.hok p _ h
  exact ⟨its, n, r, e, z⟩
/-- the list at p is written by an update of its object -/
theorem Inv.lstUpd {pins : List (Addr × Obj)} {σ : St} {H : Hp} {s : Shared} {p : Addr} {xs ys : List V} {its its' : List Value} {n n' : Nat} {f : Obj → Obj} (I : Inv X pins σ H s) (h : H p = some (.lst xs))
    (ho : s.heap.get? p = some { cls := .type "list", data := .seq its.toArray n }) (hf : f { cls := .type "list", data := .seq its.toArray n } = { cls := .type "list", data := .seq its'.toArray n' }) (r : Vals ys its') (hz : ys.length ≤ sizeLine) (t : Nat) :
    Inv X pins σ (upd H p (.lst ys)) { s with heap := s.heap.update p f, toks := t } := by
  have e : (s.heap.update p f).get? p = some { cls := .type "list", data := .seq its'.toArray n' } := by
    rw [Heap.get?_update_self f ho (by rw [hf] <;> rfl), hf]
  refine I.write (x := p) (e := p) (by rw [h]; trivial) (.inl rfl) (fun b u hb q => (Heap.get?_update_other _ _ (Ne.symm hb)).trans q) ⟨_, e⟩ ?_
  exact ⟨hz, its', n', r, e⟩
def rSetL : V → V → V → Hp → (Hp → Prop) → Prop := fun o i v H Q => ∃ p xs k j, o = .ref p ∧ i = .int k ∧ H p = some (.lst xs) ∧ ixN xs.length k = some j ∧ Q (upd H p (.lst (xs.set j v)))
theorem set_list : PSet X rSetL := by
  intro pins s σ H o i v ov iv u Q I ro ri rv h
  obtain ⟨p, xs, k, j, rfl, rfl, hp, hj, q⟩ := h
  cases ro
  obtain ⟨t, rfl⟩ := ri
  obtain ⟨its, n, r, ho, hz⟩ := I.lst hp
  obtain ⟨h1, h2, h3, h4⟩ := ixN_seq hj
  have hl := r.length
  have hn := line63
  have I' : Inv X pins σ (upd H p (.lst (xs.set j v))) { s with heap := s.heap.update p (Obj.mapSeq (·.setIfInBounds j u)) } :=
    I.lstUpd hp ho (mapSeq_set its n j u) (r.set rv j) (by rw [List.length_set]; exact hz) s.toks
  by_cases h0 : 0 ≤ k
  · have hk : k.toNat = j := by
      rw [seqIndex_of h0 h4] at h1
      exact Option.some.inj h1
    exact PySem.W.ki_setAt ho h0 (by omega) (by rw [List.size_toArray, ← hl]; exact h4) (by rw [hk]; exact ⟨_, I', q⟩)
  · have hk : (k + (its.toArray.size : Int)).toNat = j := by
      rw [seqIndex_neg (by omega) h3] at h1
      rw [List.size_toArray, ← hl]
      exact Option.some.inj h1
    exact PySem.W.ki_setBack ho (by omega) (by rw [List.size_toArray, ← hl]; exact h3) (by omega) (by rw [hk]; exact ⟨_, I', q⟩)

/-! ### slices -/
/-! ### in, not in: flat items -/
/-! ### len, list(x), tuple(x) of any list or tuple that is read -/
theorem call_len_seq : CallR X (.builtin "len") (fun xs H Q => ∃ p ys, xs = [.ref p] ∧ (SqL X.K H p ys ∨ SqT X.K H p ys) ∧ Q (.int ys.length) H) := by
  intro pins s σ H xs us Q I r h
  obtain ⟨p, ys, rfl, hq, q⟩ := h
  obtain ⟨u, rfl, rx⟩ := vals1 r
  cases rx
  have hn := line63
  rcases hq with hq | hq
  · obtain ⟨its, r', pl, hz⟩ := I.list hq
    have hlen := r'.length
    exact Calls.call_len_list pl.isList (by simp only [List.size_toArray] <;> omega) ⟨.int ys.length, H, I.tok _, ⟨s.toks + 1, by rw [List.size_toArray, hlen]⟩, q⟩
  · obtain ⟨its, r', pl, hz⟩ := I.tuple hq
    have hlen := r'.length
    exact len_tuple pl (by simp only [List.size_toArray] <;> omega) ⟨.int ys.length, H, I.tok _, ⟨s.toks + 1, by rw [List.size_toArray, hlen]⟩, q⟩
theorem call_list_of : CallR X (.type "list") (fun xs H Q => ∃ p ys, xs = [.ref p] ∧ (SqL X.K H p ys ∨ SqT X.K H p ys) ∧ ∀ l, H l = none → Q (.ref l) (upd H l (.lst ys))) := by
  intro pins s σ H xs us Q I r h
  obtain ⟨p, ys, rfl, hq, q⟩ := h
  obtain ⟨u, rfl, rx⟩ := vals1 r
  cases rx
  have fin : ∀ (its : List Value), Vals ys its → ys.length ≤ sizeLine → ∀ (h' : Heap) (c' : Nat), (∀ b o', s.heap.get? b = some o' → h'.get? b = some o') →
      h'.get? s.heap.objs.size = some { cls := .type "list", dict := none, data := .seq its.toArray c', slots := #[] } → EP X pins σ Q (.ref s.heap.objs.size) { s with heap := h' } := fun its r' hz h' c' kp e =>
    ⟨.ref s.heap.objs.size, _, I.laid (t' := s.toks) kp (Nat.le_refl _) (show ObjOk X.prog X.w _ h' _ (.lst ys) from ⟨hz, its, c', r', e⟩), rfl, q _ (I.hok.fresh (Nat.le_refl _))⟩
  rcases hq with hq | hq
  · obtain ⟨its, r', pl, hz⟩ := I.list hq
    have hlen := r'.length
    obtain ⟨o, ho, hc, n, hd⟩ := pl.isList
    exact call_list_seq p (.inl rfl) ho hc hd (fun h' c' kp e => fin its r' hz h' c' kp e) (by simp only [List.size_toArray] <;> omega)
  · obtain ⟨its, r', pl, hz⟩ := I.tuple hq
    have hlen := r'.length
    obtain ⟨o, ho, hc, n, hd⟩ := pl
    exact call_list_seq p (.inr rfl) ho hc hd (fun h' c' kp e => fin its r' hz h' c' kp e) (by simp only [List.size_toArray] <;> omega)
/-! ### the call of a builtin's method: o.m(..) -/
/-- the value is of that builtin type -/
def tyV (K : PySem.W.Frag) (T : String) (x : V) (H : Hp) : Prop := match x with
  | .str _ => T = "str"
  | .int _ => T = "int"
  | .ref p => (T = "list" ∧ ∃ xs, SqL K H p xs) ∨ (T = "tuple" ∧ ∃ o, K.lookup p = some o ∧ o.cls = .type "tuple" ∧ o.dict = none) ∨
      (T = "dict" ∧ ((∃ kvs, H p = some (.dK kvs)) ∨ ∃ kvs, H p = some (.dT kvs))) ∨ (T = "set" ∧ ∃ S n, H p = some (.set S n))
  | _ => False
theorem tyV_is {pins : List (Addr × Obj)} {σ : St} {H : Hp} {s : Shared} {T : String} {x : V} {v : Value} (I : Inv X pins σ H s) (r : RelV x v) (ty : tyV X.K T x H) :
    s.TypeIs v T ∧ ∀ a, v = .ref a → ∃ ob, s.heap.get? a = some ob ∧ ob.dict = none := by
  cases x with
  | str z =>
    obtain ⟨t, rfl⟩ := r
    cases (show T = "str" from ty)
    exact ⟨typeIs_str s z t, fun _ e => nomatch e⟩
  | int i =>
    obtain ⟨t, rfl⟩ := r
    cases (show T = "int" from ty)
    exact ⟨typeIs_int s i t, fun _ e => nomatch e⟩
  | ref p =>
    cases r
    rcases ty with ⟨rfl, xs, hq⟩ | ⟨rfl, o, hk, hc, hd⟩ | ⟨rfl, hk⟩ | ⟨rfl, S, n, hk⟩
    · obtain ⟨its, _, pl, _⟩ := I.list hq
      refine ⟨pl.isList.typeIs, fun a e => ?_⟩
      cases e
      obtain ⟨o, n, e, c, hd, _⟩ := pl
      exact ⟨o, e, hd⟩
    · refine ⟨⟨o, I.kIn p o hk, hc⟩, fun a e => ?_⟩
      cases e
      exact ⟨o, I.kIn _ o hk, hd⟩
    · have z : ∃ o, s.heap.get? p = some o ∧ o.ExactDict := by
        rcases hk with ⟨kvs, hk⟩ | ⟨kvs, hk⟩
        · obtain ⟨_, _, _, _, o, _, _, e, ex, _⟩ := I.hok p _ hk
          exact ⟨o, e, ex⟩
        · obtain ⟨_, _, _, _, o, _, _, e, ex, _⟩ := I.hok p _ hk
          exact ⟨o, e, ex⟩
      obtain ⟨o, e, ex⟩ := z
      refine ⟨⟨o, e, ex.1⟩, fun a e2 => ?_⟩
      cases e2
      exact ⟨o, e, ex.2.1⟩
    · obtain ⟨o, _, _, _, e, ex, _⟩ := I.hok p _ hk
      refine ⟨⟨o, e, ex.1⟩, fun a e2 => ?_⟩
      cases e2
      exact ⟨o, e, ex.2.1⟩
  | _ => exact False.elim ty
def tBM (K : PySem.W.Frag) (T : String) (r : V → List V → Hp → VK → Prop) (to : TE) (t : TA) : TE := fun σ H Q => to σ H fun x H1 => tyV K T x H1 ∧ t σ H1 fun xs H2 => r x xs H2 Q
variable {o e : Expr} {es : List Expr} {to : TE} {t : TA} {name : Str} {apos cpos : Pos} {T id : String} {r : V → List V → Hp → VK → Prop}
theorem pe_bm (pa : PlainAttrs T) (slot : Slot T name id) (hty : typeOf (.builtin id) = pure (.type "method_descriptor")) (hm : MtR X id r) (ho : PE X o to) (ha : PA X (e :: es) t)
    (hbase : attributeBase o name X.env (eval o X.env) = eval o X.env := by rfl)
    (hfew : ((backTo cpos (starEach (e :: es) X.env)).all (fun x => !x.1) && (backToKw cpos (keywordEach [] X.env)).all (fun x => x.1.isSome)
      && decide ((e :: es).length + ([] : List Keyword).length + (if ([] : List Keyword).isEmpty then 0 else 1) < 30)) = true := by rfl)
    (hline : (apos.endLine == cpos.line) = true := by rfl) (hs : starEach (e :: es) X.env = (false, eval e X.env) :: starEach es X.env := by rfl) (hplain : (backTo cpos (starEach es X.env)).any (·.1) = false := by rfl) :
    PE X (.Call (.Attribute o name apos) (e :: es) [] cpos) (tBM X.K T r to t) := by
  intro pins s σ H Q I h
  refine wpAny_Call_method_late hbase hfew hline rfl (thn (ho pins s σ H _ I h) fun v s1 ⟨x, H1, I1, r1, ty, q1⟩ => ?_)
  obtain ⟨h1, h2⟩ := tyV_is I1 r1 ty
  refine ⟨T, id, pa, slot, hty, h1, h2, ?_⟩
  have hA := ha cpos pins s1 σ H1 _ I1 q1
  rw [hs] at hA ⊢
  refine Calls.callWith_builtin (by show (false || (backTo cpos (starEach es X.env)).any (·.1)) = false; rw [hplain] <;> rfl) (Calls.evalArgs_plain ?_)
  exact thn hA fun us s2 ⟨vs, H2, I2, r2, q2⟩ => hm pins s2 σ H2 x vs v us Q I2 r1 r2 q2
/- xs.append(e), list.index on a module's tuple .. are MtR facts of 06m -/
end
end L2

namespace L2
open PySem PySem.Spec PyProof.Rows

def MtM (X : Cx) (id : String) (r : V → List V → Hp → VK → Prop) : Prop :=
  ∀ (pins : List (Addr × Obj)) (s : Shared) (σ : St) (H : Hp) (x : V) (xs : List V) (v : Value) (us : List Value) (Q : VK), Inv X pins σ H s → RelV x v → Vals xs us → r x xs H Q →
    wpAny (model X.prog X.w) X.A (call (.builtin id) (v :: us)) (EP X pins σ Q) X.xe s

/-! ### lists of values -/
theorem Vals.one : ∀ {x : V} {us : List Value}, Vals [x] us → ∃ u, us = [u] ∧ RelV x u
  | _, _, .cons r .nil => ⟨_, rfl, r⟩
theorem Vals.rep {xs : List V} {us : List Value} (h : Vals xs us) : ∀ k : Nat, Vals (List.replicate k xs).flatten (List.replicate k us).flatten
  | 0 => .nil
  | k + 1 => by
    rw [List.replicate_succ, List.replicate_succ, List.flatten_cons, List.flatten_cons]
    exact Vals.append h (Vals.rep h k)
theorem foldl_rep (its : List Value) : ∀ (k : Nat) (acc : List Value),
    List.foldl (fun x1 x2 => x1 ++ x2) acc.toArray (List.replicate k its.toArray) = (acc ++ (List.replicate k its).flatten).toArray
  | 0, acc => by simp
  | k + 1, acc => by
    have e : acc.toArray ++ its.toArray = (acc ++ its).toArray := by simp
    have e2 : (acc ++ its) ++ (List.replicate k its).flatten = acc ++ (List.replicate (k + 1) its).flatten := by
      rw [List.replicate_succ, List.flatten_cons, List.append_assoc]
    rw [← e2, ← foldl_rep its k (acc ++ its), ← e, List.replicate_succ, List.foldl_cons]

section
variable {X : Cx} {pins : List (Addr × Obj)} {σ : St} {H : Hp} {s : Shared} {l b : Addr} {xs ys zs : List V}

/-! ### the two steps: a tracked list is rewritten, a new list is laid -/
theorem Inv.lset {its its' : List Value} {n : Nat} {f : Array Value → Array Value} {t' : Nat} (I : Inv X pins σ H s) (hH : H l = some (.lst xs))
    (e : s.heap.get? l = some { cls := .type "list", data := .seq its.toArray n }) (hf : f its.toArray = its'.toArray) (hv : Vals ys its') (hz : ys.length ≤ sizeLine) :
    Inv X pins σ (upd H l (.lst ys)) { s with heap := s.heap.update l (Obj.mapSeq f), toks := t' } := by
  have q := PySem.IsL.update e f
  rw [hf] at q
  refine I.write (x := l) (e := l) (by rw [hH]; exact trivial) (.inl rfl) (fun b' u hb hu => (Heap.get?_update_other s.heap (Obj.mapSeq f) (Ne.symm hb)).trans hu) ⟨_, q⟩ ?_
  exact ⟨hz, its', _, hv, q⟩
theorem Inv.lnew {its : List Value} {t' : Nat} (I : Inv X pins σ H s) (hv : Vals ys its) (hz : ys.length ≤ sizeLine) :
    Inv X pins σ (upd H s.heap.objs.size (.lst ys)) { s with heap := s.heap.push { cls := .type "list", data := .seq its.toArray }, toks := t' } :=
  I.laid (fun _ _ q => Heap.get?_push_of_some _ q) (Nat.le_refl _) ⟨hz, its, 0, hv, Heap.get?_push_size _ rfl⟩
theorem Inv.fresh (I : Inv X pins σ H s) : H s.heap.objs.size = none := I.hok.fresh (Nat.le_refl _)
theorem Inv.lstM (I : Inv X pins σ H s) (hH : H l = some (.lst xs)) : xs.length ≤ sizeLine ∧ ∃ (its : List Value) (n : Nat), Vals xs its ∧ xs.length = its.length ∧ s.heap.get? l = some { cls := .type "list", data := .seq its.toArray n } := by
  obtain ⟨z, its, n, r, e⟩ := I.hok l _ hH
  exact ⟨z, its, n, r, r.length, e⟩

theorem notLongL {n : Nat} (h : n ≤ sizeLine) : Builtin.List.listTooLong n = false := by
  unfold Builtin.List.listTooLong
  exact decide_eq_false (by omega)
end

section
variable {X : Cx}

/-! ### methods -/
def rAppend : V → List V → Hp → VK → Prop := fun x vs H Q => ∃ l xs y, x = .ref l ∧ vs = [y] ∧ H l = some (.lst xs) ∧ xs.length < sizeLine ∧ Q .non (upd H l (.lst (xs ++ [y])))
theorem mt_append : MtM X "list.append" rAppend := by
  intro pins s σ H x vs v us Q I rx rv h
  obtain ⟨l, xs, y, rfl, rfl, hH, hz, q⟩ := h
  cases rx
  obtain ⟨u, rfl, ru⟩ := rv.one
  obtain ⟨z, its, n, r, hl, e⟩ := I.lstM hH
  refine call_meets F.slot_list_append ⟨_, e, rfl⟩ F.entry_list_append (F.args_list_append_2 _ _) (PySem.list_append l its.toArray n u (by rw [List.size_toArray]; omega)) ⟨e, ?_⟩
  refine ⟨.non, _, I.lset (its' := its ++ [u]) hH e (by simp) (r.append (.cons ru .nil)) ?_, rfl, q⟩
  rw [List.length_append, List.length_singleton]
  omega

/-! ### list + list, list += list, list * int -/
def rCat : R2 := fun x y H Q => ∃ l b xs zs, x = .ref l ∧ y = .ref b ∧ H l = some (.lst xs) ∧ H b = some (.lst zs) ∧ xs.length + zs.length ≤ sizeLine ∧ ∀ p, H p = none → Q (.ref p) (upd H p (.lst (xs ++ zs)))
theorem op_cat : OpR X (binaryOp .Add) rCat := by
  intro pins s σ H x y v u Q I rx ry h
  obtain ⟨l, b, xs, zs, rfl, rfl, hH, hB, hz, q⟩ := h
  cases rx
  cases ry
  obtain ⟨z, its, n, r, hl, e⟩ := I.lstM hH
  obtain ⟨z2, its2, n2, r2, hl2, e2⟩ := I.lstM hB
  refine PySem.P.add_list e e2 ?_ (by rw [List.size_toArray, List.size_toArray]; omega)
  have ea : its.toArray ++ its2.toArray = (its ++ its2).toArray := by simp
  rw [ea]
  exact ⟨.ref _, _, I.lnew (t' := s.toks) (r.append r2) (by rw [List.length_append]; omega), rfl, q _ I.fresh⟩
/-- a list times an int (a negative one is nothing) -/
def rRep : R2 := fun x y H Q => ∃ l k xs, x = .ref l ∧ y = .int k ∧ H l = some (.lst xs) ∧ -(2 ^ 63) ≤ k ∧ k < 2 ^ 63 ∧ xs.length * k.toNat ≤ sizeLine ∧
  ∀ p, H p = none → Q (.ref p) (upd H p (.lst (List.replicate k.toNat xs).flatten))
theorem len_rep {α : Type} (xs : List α) (k : Nat) : (List.replicate k xs).flatten.length = k * xs.length := by
  induction k with
  | zero => simp
  | succ k ih => rw [List.replicate_succ, List.flatten_cons, List.length_append, ih, Nat.succ_mul, Nat.add_comm]
theorem op_rep : OpR X (binaryOp .Mult) rRep := by
  intro pins s σ H x y v u Q I rx ry h
  obtain ⟨l, k, xs, rfl, rfl, hH, h1, h2, hz, q⟩ := h
  cases rx
  obtain ⟨t, rfl⟩ := ry
  obtain ⟨z, its, n, r, hl, e⟩ := I.lstM hH
  have hlen : its.toArray.size * k.toNat ≤ sizeLine := by rw [List.size_toArray, ← hl]; exact hz
  have hcap : ¬ its.toArray.size * k.toNat > (2 ^ 63 - 1) / 8 := by
    have : (sizeLine : Nat) ≤ (2 ^ 63 - 1) / 8 := by decide
    omega
  have hfit : ¬ (!Builtin.List.listFitsIndex k) = true := by
    rw [fitsIndex_both h1 h2]
    exact Bool.false_ne_true
  have hlong : ¬ Builtin.List.listTooLong (its.toArray.size * k.toNat) = true := by
    rw [notLongL hlen]
    exact Bool.false_ne_true
  have hnew : List.foldl (fun x1 x2 => x1 ++ x2) #[] (List.replicate (if its.toArray.isEmpty = true then 0 else k.toNat) its.toArray) = (List.replicate k.toNat its).flatten.toArray := by
    have f0 : ∀ m : Nat, List.foldl (fun x1 x2 => x1 ++ x2) #[] (List.replicate m its.toArray) = (List.replicate m its).flatten.toArray := fun m => by
      have := foldl_rep its m []
      rw [List.nil_append] at this
      exact this
    rw [f0]
    cases its with
    | nil => simp
    | cons a r' => rw [if_neg (by simp)]
  refine wpAny_binaryOp_repeat_ref (T := "list") (U := "int") (by decide) ⟨_, e, rfl⟩ (fun s' => typeIs_int s' k t) noFill_list_mul F.fills_int_mul F.slot_int_rmul repeat_list F.slot_int_index.lookup
    (call_meets F.slot_int_rmul (typeIs_int s k t) F.entry_int_rmul (F.args_int_rmul_2 _ _) (int___rmul___int_list k t l its.toArray n)
      ⟨e, rfl, ⟨_, e, rfl⟩, call_meets F.slot_list_mul ⟨_, e, rfl⟩ F.entry_list_mul (F.args_list_mul_2 _ _) (AutoListH.list___mul___list_int_3 l its.toArray n k t hfit hcap hlong) ⟨e, ?_⟩⟩)
  rw [hnew]
  exact ⟨.ref _, _, I.lnew (t' := s.toks) (r.rep k.toNat) (by rw [len_rep, Nat.mul_comm]; exact hz), rfl, q _ I.fresh⟩

/-! ### del xs[i] -/
end

/-! ### xs[a:b] = ys -/
section
variable {prog : Program} {w : World} {A : Around} {E : Value → Shared → Prop} {s : Shared}
end

section
variable {X : Cx}
end
end L2

namespace L2
open PySem PySem.Spec PyProof.Rows

theorem Vals.ints : ∀ {ns : List Int} {us : List Value}, Vals (ns.map V.int) us → IntsAre us ns
  | [], us, h => by
    rw [List.map_nil] at h
    cases h
    exact IntsAre.nil
  | n :: ns, us, h => by
    rw [List.map_cons] at h
    cases h with
    | cons r t =>
      obtain ⟨k, rfl⟩ := r
      exact IntsAre.cons n k (Vals.ints t)
theorem Vals.ref1 {a : Addr} {us : List Value} (r : Vals [V.ref a] us) : us = [Value.ref a] := by
  cases r with
  | cons r t =>
    cases t
    cases r
    rfl
/-! ### the library's walks over a list of ints, kept objects alone -/
section
variable {prog : Program} {w : World} {A : Around} {E : Value → Shared → Prop} {s : Shared} {l : Addr} {its : List Value} {ns : List Int} {Q : Value → Shared → Prop}
end

/-! ### the calls, by values (CallR of 03t; MtR of 06l) -/
section
variable {X : Cx}
/-! sorted, sort (fewer than 64 items: the library's own bound) -/
end

/-! ### list.index, flat items -/
section
variable {X : Cx}
end

/-! ### type(x) of an own instance; is, is not of a module's class -/
section
variable {X : Cx}
end

/-! ### any(xs), all(xs) of a list of bools -/
section
variable {X : Cx}
end

/-! ### == and != of data at any depth: none, bools, ints, texts, lists, tuples -/
mutual
inductive Dp (K : PySem.W.Frag) (H : Hp) : V → PyData → Prop
  | non : Dp K H .non .none
  | bl (b : Bool) : Dp K H (.bl b) (.bool b)
  | int (i : Int) : Dp K H (.int i) (.int i)
  | str (x : Str) : Dp K H (.str x) (.str x)
  | lst {a : Addr} {xs : List V} {ds : List PyData} : SqL K H a xs → DpAll K H xs ds → Dp K H (.ref a) (.list ds)
  | tup {a : Addr} {xs : List V} {ds : List PyData} : SqT K H a xs → DpAll K H xs ds → Dp K H (.ref a) (.tuple ds)
inductive DpAll (K : PySem.W.Frag) (H : Hp) : List V → List PyData → Prop
  | nil : DpAll K H [] []
  | cons {v : V} {vs : List V} {d : PyData} {ds : List PyData} : Dp K H v d → DpAll K H vs ds → DpAll K H (v :: vs) (d :: ds)
end
section
variable {X : Cx} {pins : List (Addr × Obj)} {σ : St} {H : Hp} {s : Shared}
mutual
theorem Dp.reads (I : Inv X pins σ H s) : ∀ (d : PyData) (v : V) (u : Value), Dp X.K H v d → RelV v u → ∃ as, Reads s.heap u d as
  | .none, _, _, h, r => by
    cases h
    cases r
    exact ⟨_, Reads.none⟩
  | .bool b, _, _, h, r => by
    cases h
    cases r
    exact ⟨_, Reads.bool b⟩
  | .int i, _, _, h, r => by
    cases h
    obtain ⟨t, rfl⟩ := r
    exact ⟨_, Reads.int i t⟩
  | .str x, _, _, h, r => by
    cases h
    obtain ⟨t, rfl⟩ := r
    exact ⟨_, Reads.str x t⟩
  | .list ds, _, _, h, r => by
    cases h with
    | lst hs ha =>
      cases r
      obtain ⟨its, rv, ⟨o, n, ho, hc, _, hd⟩, _⟩ := I.list hs
      obtain ⟨as, hr⟩ := Dp.readsAll I ds _ its ha rv
      exact ⟨_, Reads.list ho hc hd hr⟩
  | .tuple ds, _, _, h, r => by
    cases h with
    | tup hs ha =>
      cases r
      obtain ⟨its, rv, ⟨o, ho, hc, n, hd⟩, _⟩ := I.tuple hs
      obtain ⟨as, hr⟩ := Dp.readsAll I ds _ its ha rv
      exact ⟨_, Reads.tuple ho hc hd hr⟩
  | .dict _, _, _, h, _ => by cases h
theorem Dp.readsAll (I : Inv X pins σ H s) : ∀ (ds : List PyData) (vs : List V) (us : List Value), DpAll X.K H vs ds → Vals vs us → ∃ as, ReadsAll s.heap us ds as
  | [], _, _, h, r => by
    cases h
    cases r
    exact ⟨_, ReadsAll.nil⟩
  | d :: ds, _, _, h, r => by
    cases h with
    | cons h1 h2 =>
      cases r with
      | cons r1 r2 =>
        obtain ⟨as, q1⟩ := Dp.reads I d _ _ h1 r1
        obtain ⟨bs, q2⟩ := Dp.readsAll I ds _ _ h2 r2
        exact ⟨_, ReadsAll.cons q1 q2⟩
end
end
section
variable {X : Cx}
end
end L2

namespace L2
open PySem PySem.Spec PyProof.Rows
abbrev CellAt (h : Heap) (c : Addr) (v : Option Value) : Prop := h.IsCell c v
def relS (scope sc : Scope) : Scope :=
  { scope with names := scope.names.map fun (n, k) => if (k == .free && sc.kind == .function && sc.names.lookup n == some .cell) then (n, .cell) else (n, k) }

def cloFrom (cells : List (Str × Addr)) : List (Str × NameKind) → List (Str × Addr) → List (Str × Addr)
  | [], acc => acc
  | (n, k) :: r, acc => if k == .free then cloFrom cells r ((n, (cells.lookup n).getD 0) :: acc) else cloFrom cells r acc

theorem closure_loop (env : Env) (f : Str × NameKind → List (Str × Addr) → Sem (ForInStep (List (Str × Addr))))
    (hf : ∀ n k c, f (n, k) c = if k == .free then (do let a ← cellOf env n; pure (.yield ((n, a) :: c))) else pure (.yield c)) :
    ∀ (names : List (Str × NameKind)) (acc : List (Str × Addr)), (∀ y ∈ names, y.2 = .free → ∃ c, env.cells.lookup y.1 = some c) → forIn names acc f = pure (cloFrom env.cells names acc)
  | [], acc, _ => by rw [List.forIn_nil]; rfl
  | (n, k) :: r, acc, h => by
    rw [List.forIn_cons, hf]
    have ih := fun acc => closure_loop env f hf r acc fun y hy => h y (List.mem_cons_of_mem _ hy)
    unfold cloFrom
    by_cases hk : (k == NameKind.free) = true
    · rw [if_pos hk, if_pos hk]
      obtain ⟨c, hc⟩ := h (n, k) List.mem_cons_self (by simpa using hk)
      have e : cellOf env n = pure c := by unfold cellOf; rw [hc]
      rw [e]
      have e2 : (env.cells.lookup n).getD 0 = c := by rw [hc]; rfl
      rw [e2]
      exact ih _
    · rw [if_neg hk, if_neg hk]
      exact ih _
theorem closure_ok {scope : Scope} {env : Env} (h : ∀ y ∈ scope.names, y.2 = .free → ∃ c, env.cells.lookup y.1 = some c) : closureFor scope env = pure (cloFrom env.cells scope.names []) := by
  simp only [closureFor]
  rw [closure_loop env _ (fun n k c => rfl) scope.names [] h]
  rfl

theorem mem_lookup {α : Type} : ∀ {l : List (Str × α)} {n : Str} {c : α}, (n, c) ∈ l → ∃ c', l.lookup n = some c'
  | (k, v) :: r, n, c, h => by
    rw [List.lookup_cons]
    cases hb : n == k with
    | true => exact ⟨_, rfl⟩
    | false =>
      rcases List.mem_cons.mp h with e | h
      · cases e; simp at hb
      · exact mem_lookup h

theorem cloFrom_mem {cells : List (Str × Addr)} : ∀ {names : List (Str × NameKind)} {acc : List (Str × Addr)} {n : Str} {c : Addr}, (n, c) ∈ cloFrom cells names acc → (n, c) ∈ acc ∨ ((n, .free) ∈ names ∧ c = (cells.lookup n).getD 0)
  | [], _, _, _, h => .inl h
  | (m, k) :: r, acc, n, c, h => by
    unfold cloFrom at h
    split at h
    · rename_i hk
      have hk : k = .free := by simpa using hk
      rcases cloFrom_mem h with h | ⟨h1, h2⟩
      · rcases List.mem_cons.mp h with e | h
        · cases e; exact .inr ⟨hk ▸ List.mem_cons_self, rfl⟩
        · exact .inl h
      · exact .inr ⟨List.mem_cons_of_mem _ h1, h2⟩
    · rcases cloFrom_mem h with h | ⟨h1, h2⟩
      · exact .inl h
      · exact .inr ⟨List.mem_cons_of_mem _ h1, h2⟩
theorem cloFrom_acc {cells : List (Str × Addr)} : ∀ {names : List (Str × NameKind)} {acc : List (Str × Addr)} {p : Str × Addr}, p ∈ acc → p ∈ cloFrom cells names acc
  | [], _, _, h => h
  | (m, k) :: r, acc, p, h => by
    unfold cloFrom
    split
    · exact cloFrom_acc (List.mem_cons_of_mem _ h)
    · exact cloFrom_acc h
theorem cloFrom_has {cells : List (Str × Addr)} : ∀ {names : List (Str × NameKind)} {acc : List (Str × Addr)} {n : Str}, (n, .free) ∈ names → (n, (cells.lookup n).getD 0) ∈ cloFrom cells names acc
  | (m, k) :: r, acc, n, h => by
    unfold cloFrom
    rcases List.mem_cons.mp h with e | h
    · cases e
      exact cloFrom_acc List.mem_cons_self
    · split
      · exact cloFrom_has h
      · exact cloFrom_has h

theorem cells_mem : ∀ {names : List (Str × NameKind)} {h : Heap} {acc : List (Str × Addr)} {x : Str} {c : Addr}, (x, c) ∈ cellsFrom h.objs.size names acc →
    (x, c) ∈ acc ∨ ((x, .cell) ∈ names ∧ h.objs.size ≤ c ∧ CellAt (pushCells h names) c none)
  | [], _, _, _, _, h => .inl h
  | (n, k) :: r, h, acc, x, c, hm => by
    unfold cellsFrom at hm
    unfold pushCells
    split at hm
    · rename_i hk
      rw [if_pos hk]
      have hk : k = .cell := by simpa using hk
      rw [← Heap.size_push h { cls := .type "cell", data := .cell none }] at hm
      rcases cells_mem hm with hm | ⟨h1, h2, h3⟩
      · rcases List.mem_cons.mp hm with e | hm
        · cases e
          exact .inr ⟨hk ▸ List.mem_cons_self, Nat.le_refl _, _, pushCells_keeps r _ _ _ (Heap.get?_push_size _ rfl), rfl⟩
        · exact .inl hm
      · rw [Heap.size_push] at h2
        exact .inr ⟨List.mem_cons_of_mem _ h1, Nat.le_of_succ_le h2, h3⟩
    · rename_i hk
      rw [if_neg hk]
      rcases cells_mem hm with hm | ⟨h1, h2, h3⟩
      · exact .inl hm
      · exact .inr ⟨List.mem_cons_of_mem _ h1, h2, h3⟩
theorem cells_acc : ∀ {names : List (Str × NameKind)} {n : Nat} {acc : List (Str × Addr)} {p : Str × Addr}, p ∈ acc → p ∈ cellsFrom n names acc
  | [], _, _, _, h => h
  | (m, k) :: r, n, acc, p, h => by
    unfold cellsFrom
    split
    · exact cells_acc (List.mem_cons_of_mem _ h)
    · exact cells_acc h
theorem cells_has : ∀ {names : List (Str × NameKind)} {n : Nat} {acc : List (Str × Addr)} {x : Str}, (x, .cell) ∈ names → ∃ c, (x, c) ∈ cellsFrom n names acc
  | (m, k) :: r, n, acc, x, h => by
    unfold cellsFrom
    rcases List.mem_cons.mp h with e | h
    · cases e
      exact ⟨n, cells_acc List.mem_cons_self⟩
    · split
      · exact cells_has h
      · exact cells_has h
theorem cells_inj : ∀ {names : List (Str × NameKind)} {h : Heap} {acc : List (Str × Addr)} {x y : Str} {c : Addr}, (∀ p ∈ acc, p.2 < h.objs.size) → (∀ x y c, (x, c) ∈ acc → (y, c) ∈ acc → x = y) →
    (x, c) ∈ cellsFrom h.objs.size names acc → (y, c) ∈ cellsFrom h.objs.size names acc → x = y
  | [], _, _, _, _, _, _, hi, h1, h2 => hi _ _ _ h1 h2
  | (n, k) :: r, h, acc, x, y, c, hl, hi, h1, h2 => by
    unfold cellsFrom at h1 h2
    split at h1
    · rename_i hk
      rw [if_pos hk] at h2
      rw [← Heap.size_push h { cls := .type "cell", data := .cell none }] at h1 h2
      refine cells_inj (h := h.push _) (fun p hp => ?_) (fun x y c a b => ?_) h1 h2
      · rw [Heap.size_push]
        rcases List.mem_cons.mp hp with rfl | hp
        · exact Nat.lt_succ_self _
        · exact Nat.lt_succ_of_lt (hl p hp)
      · rcases List.mem_cons.mp a with e | a <;> rcases List.mem_cons.mp b with e' | b
        · cases e; cases e'; rfl
        · cases e; exact absurd (hl _ b) (Nat.lt_irrefl _)
        · cases e'; exact absurd (hl _ a) (Nat.lt_irrefl _)
        · exact hi _ _ _ a b
    · rename_i hk
      rw [if_neg hk] at h2
      exact cells_inj hl hi h1 h2

theorem newEnv_comp {M : Model} {A : Around} {E : Value → Shared → Prop} {s : Shared} {scope : Scope} {globals : Addr} {closure : List (Str × Addr)} {qual : Str} {func : Option Addr} {code : Value} {around : Env} {builtins : Addr} {Q : Env → Shared → Prop}
    (h : Q (newEnv scope s.heap.objs.size globals (cellsFrom (s.heap.objs.size + 1) scope.names closure) qual func code (some around) builtins)
      { s with heap := pushCells (s.heap.push { cls := .type "dict", data := .dict #[] }) scope.names }) :
    wpAny M A (newFunctionEnv scope globals closure [] qual func code (some around) builtins) Q E s := by
  simp only [newFunctionEnv, Option.isSome_some, if_true]
  refine wpAny_bind (wpAny_alloc ?_)
  refine wpAny_bind (wpAny_layCells _ (fun n k c => rfl) scope.names closure _ _ ?_)
  rw [show ({ s with heap := s.heap.push { cls := .type "dict", data := .dict #[] } } : Shared).heap.objs.size = s.heap.objs.size + 1 from Heap.size_push ..]
  rw [List.forIn_nil]
  exact wpAny_bind (wpAny_pure (wpAny_pure h))

/-- every name of the written scope, in the scope that runs -/
theorem lookup_relS {sc : Scope} : ∀ {names : List (Str × NameKind)} {x : Str} {k : NameKind},
    (names.map fun (n, k) => if (k == NameKind.free && sc.kind == .function && sc.names.lookup n == some .cell) then (n, NameKind.cell) else (n, k)).lookup x = some k →
    ∃ k', names.lookup x = some k' ∧ (k = k' ∨ (k' = .free ∧ k = .cell))
  | [], _, _, h => by simp at h
  | (n, k₀) :: r, x, k, h => by
    have ih := @lookup_relS sc r x k
    have h' : List.lookup x ((if (k₀ == NameKind.free && sc.kind == .function && sc.names.lookup n == some .cell) = true then (n, NameKind.cell) else (n, k₀)) :: (r.map _)) = some k := h
    cases hx : x == n with
    | true =>
      simp only [List.lookup_cons, hx]
      by_cases hc : (k₀ == NameKind.free && sc.kind == .function && sc.names.lookup n == some .cell) = true
      · rw [if_pos hc] at h'
        simp only [List.lookup_cons, hx] at h'
        cases h'
        simp only [Bool.and_eq_true, beq_iff_eq] at hc
        exact ⟨k₀, rfl, .inr ⟨hc.1.1, rfl⟩⟩
      · rw [if_neg hc] at h'
        simp only [List.lookup_cons, hx] at h'
        cases h'
        exact ⟨_, rfl, .inl rfl⟩
    | false =>
      simp only [List.lookup_cons, hx]
      by_cases hc : (k₀ == NameKind.free && sc.kind == .function && sc.names.lookup n == some .cell) = true
      · rw [if_pos hc] at h'
        simp only [List.lookup_cons, hx] at h'
        exact ih h'
      · rw [if_neg hc] at h'
        simp only [List.lookup_cons, hx] at h'
        exact ih h'
/-- the names of a comprehension's block: its own (with their places in N), or captured -/
structure BlkOk (N : List Str) (sc scope : Scope) (own : List (Str × Nat)) : Prop where
  kind : scope.kind = .function
  uniq : ∀ y ∈ scope.names, scope.names.lookup y.1 = some y.2
  ix : ∀ p ∈ own, N[p.2]? = some p.1
  free : ∀ y ∈ scope.names, y.2 = .free → sc.names.lookup y.1 = some .cell ∨ sc.names.lookup y.1 = some .free
  own : ∀ y ∈ scope.names, y.2 = .local ∨ y.2 = .cell → y.1 ∈ own.map (·.1) ∨ y.1 ∉ N
/-- the slots of the block's own names forgotten -/
def wipe (σ : St) : List Nat → St
  | [] => σ
  | v :: vs => (wipe σ vs).set v none
theorem wipe_length (σ : St) : ∀ vs : List Nat, (wipe σ vs).length = σ.length
  | [] => rfl
  | v :: vs => by unfold wipe; rw [List.length_set, wipe_length σ vs]
theorem wipe_some {σ : St} {i : Nat} {x : V} : ∀ {vs : List Nat}, (wipe σ vs)[i]? = some (some x) → σ[i]? = some (some x) ∧ i ∉ vs
  | [], h => ⟨h, by simp⟩
  | v :: vs, h => by
    unfold wipe at h
    by_cases hi : v = i
    · subst hi
      by_cases hv : v < (wipe σ vs).length
      · rw [List.getElem?_set_self hv] at h; cases h
      · rw [List.getElem?_eq_none (by simpa using hv)] at h; cases h
    · rw [List.getElem?_set_ne hi] at h
      obtain ⟨h1, h2⟩ := wipe_some h
      exact ⟨h1, by simp only [List.mem_cons, not_or]; exact ⟨fun e => hi e.symm, h2⟩⟩

/-- the context of a block that starts at s, its iterator's objects at fp -/
abbrev Cx.blk (X : Cx) (s : Shared) (H : Hp) (scope : Scope) (cenv : Env) (fp : List Addr) : Cx := { X with s_0 := s, H_0 := H, env := cenv, outer := X.stack, ex := fp, fn := fun x => scope.names.lookup x == some .cell, pn := [], xe := fun _ _ => False }
section
variable {X : Cx} {pins : List (Addr × Obj)} {σ : St} {H : Hp} {s : Shared}
theorem block_start {scope : Scope} {own : List (Str × Nat)} {fp : List Addr} (I : Inv X pins σ H s) (ok : BlkOk X.N X.env.scope scope own) (hN : X.N.Nodup) (hfp : ∀ b ∈ fp, FpOk X pins H b ∧ b < s.heap.objs.size) :
    Inv (X.blk s H scope (compEnvC scope (cellsFrom (s.heap.objs.size + 1) scope.names (cloFrom X.env.cells scope.names [])) s.heap.objs.size X.env) fp) [] (wipe σ (own.map (·.2))) H { s with heap := pushCells (s.heap.push { cls := .type "dict", data := .dict #[] }) scope.names } := by
  have hfree : ∀ y ∈ scope.names, y.2 = .free → ∃ c, X.env.cells.lookup y.1 = some c := fun y hy e => by
    rcases ok.free y hy e with k | k
    · exact I.ok.has _ (.inl k)
    · exact I.ok.has _ (.inr k)
  generalize hcenv : compEnvC scope (cellsFrom (s.heap.objs.size + 1) scope.names (cloFrom X.env.cells scope.names [])) s.heap.objs.size X.env = cenv
  have kp : ∀ b o, s.heap.get? b = some o → (pushCells (s.heap.push { cls := .type "dict", data := .dict #[] }) scope.names).get? b = some o := fun b o e => pushCells_keeps _ _ _ _ (Heap.get?_push_of_some _ e)
  have hL : cenv.locals = s.heap.objs.size := by rw [← hcenv]; rfl
  have hcl : cenv.cells = cellsFrom (s.heap.objs.size + 1) scope.names (cloFrom X.env.cells scope.names []) := by rw [← hcenv]; rfl
  have hsc : cenv.scope = relS scope X.env.scope := by rw [← hcenv]; rfl
  rw [← Heap.size_push s.heap { cls := .type "dict", data := .dict #[] }] at hcl
  have cm : ∀ {y c}, (y, c) ∈ cloFrom X.env.cells scope.names [] → X.env.cells.lookup y = some c ∧ c < s.heap.objs.size := fun {y c} hm => by
    rcases cloFrom_mem hm with hm | ⟨h1, rfl⟩
    · cases hm
    · obtain ⟨c, hc⟩ := hfree _ h1 rfl
      rw [hc]
      obtain ⟨w, z⟩ := I.cell _ _ hc
      exact ⟨rfl, z.lt⟩
  have mem : ∀ {y c}, cenv.cells.lookup y = some c → (X.env.cells.lookup y = some c ∧ c < s.heap.objs.size) ∨ (s.heap.objs.size + 1 ≤ c ∧ CellAt (pushCells (s.heap.push { cls := .type "dict", data := .dict #[] }) scope.names) c none) := fun {y c} e => by
    rw [hcl] at e
    rcases cells_mem (PySem.mem_of_lookup e) with hm | ⟨_, h2, h3⟩
    · exact .inl (cm hm)
    · rw [Heap.size_push] at h2; exact .inr ⟨h2, h3⟩
  have look : ∀ {y}, scope.names.lookup y = some .free → ∃ c, cenv.cells.lookup y = some c ∧ X.env.cells.lookup y = some c := fun {y} hl => by
    have hy : (y, NameKind.free) ∈ scope.names := PySem.mem_of_lookup hl
    obtain ⟨c', e'⟩ := mem_lookup (cells_acc (names := scope.names) (n := (s.heap.push { cls := .type "dict", data := .dict #[] }).objs.size) (cloFrom_has (cells := X.env.cells) (acc := []) hy))
    rw [← hcl] at e'
    refine ⟨c', e', ?_⟩
    rw [hcl] at e'
    rcases cells_mem (PySem.mem_of_lookup e') with hm | ⟨h1, _, _⟩
    · exact (cm hm).1
    · have := ok.uniq _ h1
      rw [hl] at this; cases this
  have okB : (X.blk s H scope cenv fp).Ok := by
    refine ⟨I.ok.mod, by show cenv.scope.kind = _; rw [hsc]; exact ok.kind, by show cenv.globals = _; rw [← hcenv]; exact I.ok.glob, by show cenv.builtins = _; rw [← hcenv]; exact I.ok.blt, by show s.heap.objs.size ≤ cenv.locals; rw [hL]; exact Nat.le_refl _,
      fun y z c e1 e2 => ?_, fun y hy => ?_, fun y c z e => ?_, I.ok.hd, I.ok.frames, .inl rfl, fun b hb => ⟨?_, fun y c e z => ?_⟩, I.bs, Nat.le_trans I.ok.bsz I.sz, fun b o e hb => ?_, fun b hb z => ?_, I.stack, I.stkFree⟩
    · have e1 : cenv.cells.lookup y = some c := e1
      have e2 : cenv.cells.lookup z = some c := e2
      rw [hcl] at e1 e2
      refine cells_inj (fun p hp => ?_) (fun y z c a b => I.ok.inj y z c (cm a).1 (cm b).1) (PySem.mem_of_lookup e1) (PySem.mem_of_lookup e2)
      rw [Heap.size_push]
      exact Nat.lt_succ_of_lt (cm (y := p.1) (c := p.2) hp).2
    · show ∃ c, cenv.cells.lookup y = some c
      have key : ∀ k, cenv.kindOf y = some k → (k = .cell ∨ k = .free) → ∃ c, cenv.cells.lookup y = some c := fun k hk hk' => by
        unfold Env.kindOf at hk
        rw [hsc] at hk
        obtain ⟨k', e, r⟩ := lookup_relS hk
        have : k' = .cell ∨ k' = .free := by
          rcases r with rfl | ⟨rfl, _⟩
          · exact hk'
          · exact .inr rfl
        rcases this with rfl | rfl
        · obtain ⟨c, hm⟩ := cells_has (n := (s.heap.push { cls := .type "dict", data := .dict #[] }).objs.size) (acc := cloFrom X.env.cells scope.names []) (PySem.mem_of_lookup e)
          obtain ⟨c', e'⟩ := mem_lookup hm
          exact ⟨c', by rw [hcl]; exact e'⟩
        · obtain ⟨c, h1, _⟩ := look e
          exact ⟨c, h1⟩
      rcases hy with hy | hy
      · exact key _ hy (.inl rfl)
      · exact key _ hy (.inr rfl)
    · have z : (scope.names.lookup y == some NameKind.cell) = true := z
      have z : scope.names.lookup y = some .cell := by simpa using z
      have e : cenv.cells.lookup y = some c := e
      rw [hcl] at e
      rcases cells_mem (PySem.mem_of_lookup e) with hm | ⟨_, h2, _⟩
      · rcases cloFrom_mem hm with hm | ⟨h1, _⟩
        · cases hm
        · have q := ok.uniq _ h1
          rw [z] at q; cases q
      · rw [Heap.size_push] at h2
        exact Nat.le_of_succ_le h2
    · show b ≠ cenv.locals
      rw [hL]; exact Nat.ne_of_lt (hfp b hb).2
    · have e : cenv.cells.lookup y = some c := e
      rcases mem e with ⟨h1, _⟩ | ⟨h1, _⟩
      · exact (hfp b hb).1.2.2.2.2.1 y c h1 z
      · have h2 : s.heap.objs.size + 1 ≤ b := by rw [← z]; exact h1
        exact absurd (Nat.lt_of_lt_of_le (hfp b hb).2 (Nat.le_of_succ_le h2)) (Nat.lt_irrefl _)
    · rcases (hfp b hb).1.2.2.2.1 with z | z
      · exact I.ok.noex b o e z
      · exact absurd (Nat.lt_of_lt_of_le (Heap.lt_size e) (Nat.le_trans I.ok.bsz z)) (Nat.lt_irrefl _)
    · rcases List.mem_cons.mp (I.stkSub b z) with z | z
      · exact (hfp b hb).1.2.1 z
      · exact (hfp b hb).1.2.2.1 z
  refine ⟨okB, rfl, I.bare, Un.kept kp, ⟨fun _ => none, ?_, fun i y av e1 e2 e3 => ?_⟩, fun y c e => ?_, ?_, fun y c e => ?_, fun p hp => ?_, I.hok.kept kp, by rw [wipe_length]; exact I.len⟩
  · show Heap.Ns _ cenv.locals _
    rw [hL]
    exact Heap.Ns.keeps (Heap.Ns.new ..) fun b o e => pushCells_keeps _ _ _ _ e
  · obtain ⟨e2, hne⟩ := wipe_some e2
    have hfr : scope.names.lookup y = some .free ∧ (cenv.kindOf y = some .cell ∨ cenv.kindOf y = some .free) := by
      have key : ∀ k, cenv.scope.names.lookup y = some k → k = .local ∨ k = .cell ∨ k = .free → scope.names.lookup y = some .free ∧ (cenv.kindOf y = some .cell ∨ cenv.kindOf y = some .free) := fun k hk hk' => by
        have hk0 := hk
        rw [hsc] at hk
        obtain ⟨k', e, r⟩ := lookup_relS hk
        have no : ¬ (k' = .local ∨ k' = .cell) := fun hh => by
          rcases ok.own _ (PySem.mem_of_lookup e) hh with e' | e'
          · obtain ⟨p, hp, hpy⟩ := List.mem_map.mp e'
            have e3 := ok.ix p hp
            have : p.1 = y := hpy
            rw [this] at e3
            exact hne (List.mem_map.mpr ⟨p, hp, nodup_ix hN e3 e1⟩)
          · exact e' (List.mem_of_getElem? e1)
        rcases r with rfl | ⟨rfl, rfl⟩
        · rcases hk' with rfl | rfl | rfl
          · exact absurd (.inl rfl) no
          · exact absurd (.inr rfl) no
          · exact ⟨e, .inr hk0⟩
        · exact ⟨e, .inl hk0⟩
      have e3 : Vis cenv.scope y := e3
      rcases e3 with e3 | e3 | e3
      · exact key _ e3 (.inl rfl)
      · exact key _ e3 (.inr (.inl rfl))
      · exact key _ e3 (.inr (.inr rfl))
    obtain ⟨m, hn, hl⟩ := I.loc
    have hvis : Vis X.env.scope y := (ok.free _ (PySem.mem_of_lookup hfr.1) rfl).elim (fun k => .inr (.inl k)) (fun k => .inr (.inr k))
    obtain ⟨w, r, q⟩ := hl i y av e1 e2 hvis
    refine ⟨w, r, .inr ⟨hfr.2, ?_⟩⟩
    obtain ⟨c, h1, h2⟩ := look hfr.1
    rcases q with ⟨k, _⟩ | ⟨_, c', e', z⟩
    · have k : X.env.scope.names.lookup y = some .local := k
      rcases ok.free _ (PySem.mem_of_lookup hfr.1) rfl with k' | k' <;> rw [show X.env.scope.names.lookup y = _ from k'] at k <;> cases k
    · rw [h2] at e'; cases e'
      exact ⟨c, h1, z.keeps kp⟩
  · have e : cenv.cells.lookup y = some c := e
    rcases mem e with ⟨h1, _⟩ | ⟨_, z⟩
    · obtain ⟨w, z⟩ := I.cell y c h1
      exact ⟨w, z.keeps kp⟩
    · exact ⟨_, z⟩
  · show H cenv.locals = none
    rw [hL]; exact I.hok.fresh (Nat.le_refl _)
  · have e : cenv.cells.lookup y = some c := e
    rcases mem e with ⟨h1, _⟩ | ⟨h1, _⟩
    · exact I.freeC y c h1
    · exact I.hok.fresh (Nat.le_of_succ_le h1)
  · exact absurd (show p ∈ ([] : List (Addr × Obj)) ++ [] from hp) (by simp)

/-- an item appended to a tracked list -/
theorem app_ok {E : Value → Shared → Prop} {D : Addr} {xs : List V} {y : V} {v : Value} {Q : Value → Shared → Prop} (I : Inv X pins σ H s) (hD : H D = some (.lst xs)) (hz : xs.length < sizeLine) (r : RelV y v)
    (h : ∀ s', Inv X pins σ (upd H D (.lst (xs ++ [y]))) s' → Q .none s') : wpAny (model X.prog X.w) X.A (call (.builtin "list.append") [.ref D, v]) Q E s := by
  obtain ⟨hz', its, n, ri, e⟩ := I.hok D _ hD
  have hl := ri.length
  refine append_at (hsz := by rw [List.size_toArray]; omega) e fun h' sb ho' => ?_
  refine h { s with heap := h' } (I.write (t' := s.toks) (by rw [hD]; trivial) (.inl rfl) (fun b u hb q => (sb.2 b hb).trans q) ⟨_, ho'⟩ ⟨by rw [List.length_append]; exact hz, its ++ [v], n + 1, ri.append (.cons r .nil), ?_⟩)
  rw [ho']
  simp

/-- a clause's tests -/
def PTs (X : Cx) (ifs : List Expr) (t : TT) : Prop :=
  ∀ (pins : List (Addr × Obj)) (s : Shared) (σ : St) (H : Hp) (Q : Bool → Hp → Prop), Inv X pins σ H s → t σ H Q →
    wpAny (model X.prog X.w) X.A (forIn ifs true fun c r => if r = true then do let ok ← isTrue c X.env (eval c X.env); pure (ForInStep.yield ok) else pure (ForInStep.yield r)) (TP X pins σ Q) X.xe s
def tYes : TT := fun _ H Q => Q true H
theorem pts_nil : PTs X [] tYes := fun _ _ _ H _ I h => wpAny_tests_nil ⟨H, I, h⟩
theorem pts_one {c : Expr} {t : TT} (h : PT X c t) : PTs X [c] t := fun pins s σ H Q I hw => wpAny_tests_one (h pins s σ H Q I hw)
end

theorem thnF {α : Type} {t : Sem α} {Q Q' : α → Shared → Prop} {M : Model} {A : Around} {E : Value → Shared → Prop} {s : Shared} (h : wpAny M A t Q (fun _ _ => False) s) (hQ : ∀ a s, Q a s → Q' a s) : wpAny M A t Q' E s := wpAny_mono h hQ fun _ _ z => False.elim z

/-- the loop of a list comprehension's block, the target of any form (codeAny_compLoop_tests asks a target that no tuple goes to; statement and proof follow it, PyProof/CompMap.lean:41-61, with the step letOwnedTupleGo kept) -/
theorem compLoop_any {prog : Program} {w : World} {A : Around} {R : Result → Shared → Prop} {s : Shared} {elt target iter : Expr} {ifs : List Expr} {scope : Scope} {pos : Pos} {it acc : Value} {env : Env} (I : Nat → Shared → Prop)
    (turn : ∀ n s, I n s → wpAny (model prog w) A (pyNext it) (fun r s₁ => match r with
      | none => R (.ok .next) s₁
      | some v => wpAny (model prog w) A (letOwnedTupleGo target it v) (fun _ s₁' => wpAny (model prog w) A (assign target env v) (fun _ s₂ =>
          wpAny (model prog w) A (forIn ifs true fun c r => if r = true then do let ok ← isTrue c env (eval c env); pure (ForInStep.yield ok) else pure (ForInStep.yield r)) (fun ok s₃ =>
            if ok = true then wpAny (model prog w) A (eval elt env) (fun x s₄ =>
              wpAny (model prog w) A (call (.builtin "list.append") [acc, x]) (fun _ s₅ => ∃ m, m < n ∧ I m s₅) (notedBy (model prog w) A env fun e s' => R (.error e) s') s₄) (notedBy (model prog w) A env fun e s' => R (.error e) s') s₃
            else ∃ m, m < n ∧ I m s₃) (notedBy (model prog w) A env fun e s' => R (.error e) s') s₂) (notedBy (model prog w) A env fun e s' => R (.error e) s') s₁') (notedBy (model prog w) A env fun e s' => R (.error e) s') s₁) (notedBy (model prog w) A env fun e s' => R (.error e) s') s)
    (n : Nat) (h : I n s) :
    codeAny (model prog w) A (.compLoop (.ListComp elt [⟨target, iter, ifs, 0⟩] scope pos) 0 it acc env) R s := by
  refine codeAny_loop rfl I (fun n s hI => ?_) n h
  show wpAny _ A ((compTurn (.ListComp elt [⟨target, iter, ifs, 0⟩] scope pos) 0 it acc env).onRaise (fun x => do noteFrame x env; theTreesLotGoes x)) _ _ s
  refine wpAny_noted ?_
  rw [compTurn_list]
  refine wpAny_bind (wpAny_standAt (wpAny_bind (wpAny_mono (turn n s hI) (fun r s₁ h₁ => ?_) fun _ _ h' => h')))
  cases r with
  | none => exact wpAny_pure h₁
  | some v =>
    refine wpAny_bind (wpAny_mono h₁ (fun _ s₁' h₁' => ?_) fun _ _ h' => h')
    refine wpAny_bind (wpAny_mono h₁' (fun _ s₂ h₂ => wpAny_bind (wpAny_mono h₂ (fun ok s₃ h₃ => ?_) fun _ _ h' => h')) fun _ _ h' => h')
    cases ok with
    | false => exact wpAny_pure ⟨rfl, h₃⟩
    | true =>
      exact wpAny_bind (wpAny_bind (wpAny_mono h₃ (fun x s₄ h₄ => wpAny_bind (wpAny_mono h₄ (fun _ s₅ h₅ => wpAny_pure (wpAny_pure ⟨rfl, h₅⟩)) fun _ _ h' => h')) fun _ _ h' => h'))

section
variable {X : Cx}
/-- [elt for target in iter if ..]: D the new list; W by the turn and a measure, Nx what a turn is to reach -/
def tLc (wi : TI) (g : TG) (tt : TT) (te : TE) (vs : List Nat) : TE := fun σ H Q => wi σ H fun J H1 => ∀ D, H1 D = none → ∃ W : Nat → Nat → Hp → Prop, (∃ m, W 0 m (upd H1 D (.lst []))) ∧ ∀ i m H, W i m H →
  (J.stop i H ∧ Q (.ref D) H) ∨ (J.go i H ∧ ∃ Nx : Hp → Prop, (∀ H', Nx H' → ∃ m', m' < m ∧ W (i + 1) m' H') ∧ ∀ x H', J.yld i H x H' → g x (wipe σ vs) H' fun σ2 H2 => wipe σ2 vs = wipe σ vs ∧ tt σ2 H2 fun b H3 =>
    if b = true then te σ2 H3 fun y H4 => ∃ acc, H4 D = some (.lst acc) ∧ acc.length < sizeLine ∧ Nx (upd H4 D (.lst (acc ++ [y]))) else Nx H3)
theorem lc_core {pins : List (Addr × Obj)} {s : Shared} {σ : St} {H : Hp} {Q : VK} {elt tg iter : Expr} {ifs : List Expr} {scope : Scope} {own : List (Str × Nat)} {pos pos' : Pos} {wi : TI} {g : TG} {tt : TT} {te : TE} {use : Option (Value → Sem Unit)} {Qf : Value → Shared → Prop}
    (hc : X.calm = true) (hN : X.N.Nodup) (I : Inv X pins σ H s) (hi : PI X tg iter wi) (ok : BlkOk X.N X.env.scope scope own)
    (hg : ∀ (s : Shared) (H : Hp) (C : Addr) (cl : List (Str × Addr)) (fp : List Addr), PG (X.blk s H scope (compEnvC scope cl C X.env) fp) tg g) (ht : ∀ (s : Shared) (H : Hp) (C : Addr) (cl : List (Str × Addr)) (fp : List Addr), PTs (X.blk s H scope (compEnvC scope cl C X.env) fp) ifs tt)
    (he : ∀ (s : Shared) (H : Hp) (C : Addr) (cl : List (Str × Addr)) (fp : List Addr), PE (X.blk s H scope (compEnvC scope cl C X.env) fp) elt te) (hs : ∀ x, foldedSetIterable iter X.env x = pure x)
    (h : tLc wi g tt te (own.map (·.2)) σ H Q)
    (hRR : ∀ D C s' m H', Inv X pins σ H' s' → Q (.ref D) H' → s'.heap.Ns C m → FpOk X pins H' C → compPost (model X.prog X.w) X.A X.xe use Qf (.ref D) C (.ok .next) s') :
    wpAny (model X.prog X.w) X.A (comprehension (.ListComp elt [⟨tg, iter, ifs, 0⟩] scope pos) scope X.env pos' (newList []) false (eval iter X.env) use) Qf X.xe s := by
  have hfree : ∀ y ∈ scope.names, y.2 = .free → ∃ c, X.env.cells.lookup y.1 = some c := fun y hy e => by
    rcases ok.free y hy e with k | k
    · exact I.ok.has _ (.inl k)
    · exact I.ok.has _ (.inr k)
  refine wpAny_comprehension_free (use := use) rfl hs (closure_ok hfree) ok.kind (fun y hy e => by rw [ok.uniq y hy, e])
    (thn (hi pins s σ H _ I h) fun xv s1 hx => thn hx fun itv s2 h2 => ?_)
  obtain ⟨it, fp, tn, J, H2, e, I2, T, st2, f2, q⟩ := h2
  subst e
  refine wpAny_newObj_type (newEnv_comp ?_) (by show 0 ≤ sizeLine; decide)
  generalize hD : s2.heap.objs.size = D
  have hDn : H2 D = none := I2.hok.fresh (Nat.le_of_eq hD)
  obtain ⟨W, ⟨m0, w0⟩, turn⟩ := q D hDn
  -- the new list
  generalize hs3 : ({ s2 with heap := s2.heap.push { cls := .type "list", data := .seq ([] : List Value).toArray } } : Shared) = s3
  have I3 : Inv X pins σ (upd H2 D (.lst [])) s3 := by
    rw [← hs3]
    refine I2.laid (t' := s2.toks) (fun b o e => Heap.get?_push_of_some _ e) (Nat.le_of_eq hD) ⟨Nat.zero_le _, [], 0, .nil, ?_⟩
    rw [← hD]
    exact Heap.get?_push_size _ rfl
  have h3 : s3.heap = s2.heap.push { cls := .type "list", data := .seq ([] : List Value).toArray } := by rw [← hs3]
  have sz : ∀ b ∈ fp, b < s2.heap.objs.size := fun b hb => by
    obtain ⟨o, e, _⟩ := T.obj _ _ st2 b hb
    exact Heap.lt_size e
  have f3 : ∀ b ∈ fp, FpOk X pins (upd H2 D (.lst [])) b ∧ b < s3.heap.objs.size := fun b hb => by
    have hlt := sz b hb
    refine ⟨⟨?_, (f2 b hb).2⟩, by rw [h3, Heap.size_push]; exact Nat.lt_succ_of_lt hlt⟩
    rw [upd_ne (by rw [← hD]; exact Nat.ne_of_lt hlt)]
    exact (f2 b hb).1
  have st3 : tn 0 s3.heap := T.keep _ _ _ st2 fun b _ o e => by rw [h3]; exact Heap.get?_push_of_some _ e
  have I4 := block_start I3 ok hN f3
  have pg := hg s3 (upd H2 D (.lst [])) s3.heap.objs.size (cellsFrom (s3.heap.objs.size + 1) scope.names (cloFrom X.env.cells scope.names [])) fp
  have pt := ht s3 (upd H2 D (.lst [])) s3.heap.objs.size (cellsFrom (s3.heap.objs.size + 1) scope.names (cloFrom X.env.cells scope.names [])) fp
  have pe := he s3 (upd H2 D (.lst [])) s3.heap.objs.size (cellsFrom (s3.heap.objs.size + 1) scope.names (cloFrom X.env.cells scope.names [])) fp
  show codeAny _ _ (.compStart (.ListComp elt [⟨tg, iter, ifs, 0⟩] scope pos) 0 (.ref it) (.ref D) (compEnvC scope (cellsFrom (s3.heap.objs.size + 1) scope.names (cloFrom X.env.cells scope.names [])) s3.heap.objs.size X.env)) (compPost (model X.prog X.w) X.A X.xe use Qf (.ref D) s3.heap.objs.size) { s3 with heap := pushCells (s3.heap.push { cls := .type "dict", data := .dict #[] }) scope.names }
  have nfp : ∀ b ∈ fp, (upd H2 D (.lst [])) b = none := fun b hb => (f3 b hb).1.1
  generalize hce : compEnvC scope (cellsFrom (s3.heap.objs.size + 1) scope.names (cloFrom X.env.cells scope.names [])) s3.heap.objs.size X.env = ce at I4 pg pt pe ⊢
  have cL : ce.locals = s3.heap.objs.size := by subst hce; rfl
  generalize hH3 : upd H2 D (.lst []) = H3 at I3 I4 pg pt pe w0 nfp f3
  generalize hs4 : ({ s3 with heap := pushCells (s3.heap.push { cls := .type "dict", data := .dict #[] }) scope.names } : Shared) = s4 at I4 ⊢
  have st4 : tn 0 s4.heap := T.keep _ _ _ st3 fun b _ o e => by rw [← hs4]; exact pushCells_keeps _ _ _ _ (Heap.get?_push_of_some _ e)
  have stat : ∀ {σ' : St} {H' : Hp} {s' : Shared}, Inv (X.blk s3 H3 scope ce fp) [] σ' H' s' → (∀ b ∈ fp, H' b = none) → ∀ b ∈ fp, FpOk (X.blk s3 H3 scope ce fp) [] H' b := fun {σ' H' s'} I' hn b hb =>
    ⟨hn b hb, (I'.ok.exf b hb).1, I'.ok.exfs b hb, .inl hb, fun x c e => (I'.ok.exf b hb).2 x c e, fun p hp => absurd (show p ∈ ([] : List (Addr × Obj)) ++ [] from hp) (by simp)⟩
  have loop : codeAny (model X.prog X.w) X.A (.compLoop (.ListComp elt [⟨tg, iter, ifs, 0⟩] scope pos) 0 (.ref it) (.ref D) ce) (compPost (model X.prog X.w) X.A X.xe use Qf (.ref D) s3.heap.objs.size) s4 := by
    refine compLoop_any (fun n s' => ∃ i H', Inv (X.blk s3 H3 scope ce fp) [] (wipe σ (own.map (·.2))) H' s' ∧ tn i s'.heap ∧ (∀ b ∈ fp, H' b = none) ∧ W i n H') ?_ m0 ⟨0, H3, I4, st4, nfp, w0⟩
    rintro n s5 ⟨i, H5, I5, st5, n5, w5⟩
    rcases turn i n H5 w5 with ⟨stop, qq⟩ | ⟨go, Nx, hNx, step⟩
    · have td := T.done (X.blk s3 H3 scope ce fp) rfl rfl rfl hc i [] s5 _ H5 (fun _ _ => False) I5 (stat I5 n5) st5 stop
      refine thnF td fun r s6 ⟨hr, I6⟩ => ?_
      subst hr
      -- back in the def's context
      have I7 : Inv X pins σ H5 s6 := I3.call' (ch := fp) I6.os I6.base I6.hok I6.bare fun b hb => ⟨(f3 b hb).1.2.2.2.1, (f3 b hb).1.2.1, (f3 b hb).1.2.2.2.2.1, (f3 b hb).1.2.2.2.2.2⟩
      have nC : H5 s3.heap.objs.size = none := by
        have z : H5 ce.locals = none := I6.free
        rw [cL] at z
        exact z
      obtain ⟨m, hn, _⟩ := I6.loc
      have hn : s6.heap.Ns ce.locals m := hn
      rw [cL] at hn
      exact hRR D s3.heap.objs.size s6 m H5 I7 qq hn (I3.fpOk (Nat.le_refl _) nC)
    · have ti := T.item (X.blk s3 H3 scope ce fp) rfl rfl rfl hc i [] s5 _ H5 (fun _ _ => False) I5 (stat I5 n5) st5 go
      refine thnF ti fun r s6 ⟨u, hr, h6⟩ => ?_
      subst hr
      refine thnF h6 fun _ s7 ⟨x, H7, I7, r7, y7, st7, n7⟩ => ?_
      have I7' := I7.pinned (stat I7 n7) (T.obj _ _ st7)
      refine thnF (pg _ s7 _ H7 x u _ I7' r7 (step x H7 y7)) fun _ s8 ⟨σ8, H8, I8, hw8, q8⟩ => ?_
      refine thnF (pt _ s8 σ8 H8 _ I8 q8) fun b s9 ⟨H9, I9, q9⟩ => ?_
      -- the turn's end
      have fin : ∀ {s' : Shared} {H' : Hp}, Inv (X.blk s3 H3 scope ce fp) ([] ++ pinsAt fp s7.heap) σ8 H' s' → Nx H' → ∃ m, m < n ∧ ∃ i H', Inv (X.blk s3 H3 scope ce fp) [] (wipe σ (own.map (·.2))) H' s' ∧ tn i s'.heap ∧ (∀ b ∈ fp, H' b = none) ∧ W i m H' := fun {s' H'} I' nx => by
        obtain ⟨m', hm, w'⟩ := hNx H' nx
        have pin' : ∀ b ∈ fp, ∀ o, s7.heap.get? b = some o → s'.heap.get? b = some o ∧ H' b = none := fun b hb o e =>
          let z := I'.pin (b, o) (List.mem_append_right _ (List.mem_append_right _ (mem_pinsAt hb e)))
          ⟨z.1, z.2.1⟩
        have hl : (wipe σ (own.map (·.2))).length = σ8.length := by rw [← hw8, wipe_length]
        refine ⟨m', hm, i + 1, H', (I'.unpinned (pins := [])).weak hl (fun j v e => ?_), T.keep _ _ _ st7 fun b hb o e => (pin' b hb o e).1, fun b hb => ?_, w'⟩
        · rw [← hw8] at e
          exact (wipe_some e).1
        · obtain ⟨o, e, _⟩ := T.obj _ _ st7 b hb
          exact (pin' b hb o e).2
      cases b with
      | false =>
        simp only [Bool.false_eq_true, if_false] at q9 ⊢
        exact fin I9 q9
      | true =>
        simp only [if_true] at q9 ⊢
        refine thnF (pe _ s9 σ8 H9 _ I9 q9) fun z s10 ⟨yv, H10, I10, r10, acc, hD10, hz10, nx⟩ => ?_
        exact app_ok (X := X.blk s3 H3 scope ce fp) I10 hD10 hz10 r10 fun s11 I11 => fin I11 nx
  exact codeAny_compStart_list loop (T.self X.A 0 _ _ _ st4 loop)
/-- as a value -/
theorem pe_lc {elt tg iter : Expr} {ifs : List Expr} {scope : Scope} {own : List (Str × Nat)} {pos : Pos} {wi : TI} {g : TG} {tt : TT} {te : TE} (hc : X.calm = true) (hN : X.N.Nodup) (hi : PI X tg iter wi) (ok : BlkOk X.N X.env.scope scope own)
    (hg : ∀ (s : Shared) (H : Hp) (C : Addr) (cl : List (Str × Addr)) (fp : List Addr), PG (X.blk s H scope (compEnvC scope cl C X.env) fp) tg g) (ht : ∀ (s : Shared) (H : Hp) (C : Addr) (cl : List (Str × Addr)) (fp : List Addr), PTs (X.blk s H scope (compEnvC scope cl C X.env) fp) ifs tt)
    (he : ∀ (s : Shared) (H : Hp) (C : Addr) (cl : List (Str × Addr)) (fp : List Addr), PE (X.blk s H scope (compEnvC scope cl C X.env) fp) elt te) (hs : ∀ x, foldedSetIterable iter X.env x = pure x := by intro _; rfl) :
    PE X (.ListComp elt [⟨tg, iter, ifs, 0⟩] scope pos) (tLc wi g tt te (own.map (·.2))) := by
  intro pins s σ H Q I h
  rw [eval_ListComp]
  refine lc_core hc hN I hi ok hg ht he hs h fun D C s' m H' I' q hn f => ⟨m, hn, fun h'' sb => ?_⟩
  obtain ⟨f0, f1, f2, f3, f4, f5⟩ := f
  exact ⟨.ref D, H', I'.turned (t' := s'.toks) (fun b o hb e => (sb.2 b hb).trans e) f0 f1 f3 f4 f5, rfl, q⟩
/-- name = [..] on one line, the name a local -/
theorem ps_setLc {i : Nat} {y : Str} {py : Pos} {elt tg iter : Expr} {ifs : List Expr} {scope : Scope} {own : List (Str × Nat)} {pos spos : Pos} {wi : TI} {g : TG} {tt : TT} {te : TE} (hc : X.calm = true) (hN : X.N.Nodup) (hy : X.N[i]? = some y) (hyl : X.env.scope.names.lookup y = some .local)
    (hsw : swapsWith (.ListComp elt [⟨tg, iter, ifs, 0⟩] scope pos) (some (.Name y py)) spos.line X.env = pure true) (hi : PI X tg iter wi) (ok : BlkOk X.N X.env.scope scope own)
    (hg : ∀ (s : Shared) (H : Hp) (C : Addr) (cl : List (Str × Addr)) (fp : List Addr), PG (X.blk s H scope (compEnvC scope cl C X.env) fp) tg g) (ht : ∀ (s : Shared) (H : Hp) (C : Addr) (cl : List (Str × Addr)) (fp : List Addr), PTs (X.blk s H scope (compEnvC scope cl C X.env) fp) ifs tt)
    (he : ∀ (s : Shared) (H : Hp) (C : Addr) (cl : List (Str × Addr)) (fp : List Addr), PE (X.blk s H scope (compEnvC scope cl C X.env) fp) elt te) (hs : ∀ x, foldedSetIterable iter X.env x = pure x := by intro _; rfl) :
    PS X (.Assign [.Name y py] (.ListComp elt [⟨tg, iter, ifs, 0⟩] scope pos) spos) (tAsg (tLc wi g tt te (own.map (·.2))) (gName i)) := by
  intro pins s σ H D I h
  rw [exec_Assign_Name_used _ _ _ _ hsw]
  refine wpAny_bind (wpAny_standAt (wpAny_bind ?_))
  show wpAny _ X.A (do let _ ← comprehension (.ListComp elt [⟨tg, iter, ifs, 0⟩] scope pos) scope X.env (firstIterPos [⟨tg, iter, ifs, 0⟩] pos) (newList []) false (eval iter X.env) (some (assign (.Name y py) X.env))) _ _ s
  have h : tLc wi g tt te (own.map (·.2)) σ H (fun x H1 => gName i x σ H1 D.nx) := h
  refine wpAny_bind (thn (lc_core (Qf := fun _ s' => SP X pins D .next s') hc hN I hi ok hg ht he hs h fun L C s' m H' I' q hn f => ?_) fun _ s' hq => wpAny_pure (wpAny_pure hq))
  show wpAny _ _ (assign (.Name y py) X.env (.ref L)) _ _ _
  refine wpAny_assign_Name (store_ok2 (v := V.ref L) I' hN hy (.inl hyl) rfl (fun s2 I2 ⟨a, sb, ha⟩ => ?_) (.inr hyl))
  obtain ⟨f0, f1, f2, f3, f4, f5⟩ := f
  have haC : C ≠ a := by
    rcases ha with z | z
    · rw [z]; exact f1
    · exact fun e => f4 y a z e.symm
  refine ⟨m, hn.sameBut sb haC, fun h3 sb3 => ?_⟩
  exact ⟨_, H', I2.turned (t' := s2.toks) (fun b o hb e => (sb3.2 b hb).trans e) f0 f1 f3 f4 f5, q⟩
theorem sw_true {elt : Expr} {gs : List Comprehension} {scope : Scope} {pos py : Pos} {y : Str} {l : Nat} {env : Env} (hk : env.scope.kind = .function) (hy : env.scope.names.lookup y = some .local) (hl : (py.line == pos.line) = true)
    (ha : (scope.names.any fun (n, k) => n == y && (k == .local || k == .cell)) = false) : swapsWith (.ListComp elt gs scope pos) (some (.Name y py)) l env = pure true := by
  have ky : env.kindOf y = some .local := hy
  have hb : env.blockKind = .function := by unfold Env.blockKind; rw [hk]; rfl
  unfold swapsWith
  simp only [hb, ky, ha, Expr.pos, hl]
  rfl
end

/-! ### the forms one uses -/
/-- over a range: Pv by the turn and the heap (the new list at D within) -/
theorem lc_range {lo : Int} {n : Nat} {g : TG} {tt : TT} {te : TE} {vs : List Nat} {σ : St} {H1 : Hp} {D : Addr} {Qd : Hp → Prop} (Pv : Nat → Hp → Prop) (h0 : Pv 0 (upd H1 D (.lst [])))
    (hs : ∀ i H, i < n → Pv i H → g (.int (lo + i)) (wipe σ vs) H fun σ2 H2 => wipe σ2 vs = wipe σ vs ∧ tt σ2 H2 fun b H3 =>
      if b = true then te σ2 H3 fun y H4 => ∃ acc, H4 D = some (.lst acc) ∧ acc.length < sizeLine ∧ Pv (i + 1) (upd H4 D (.lst (acc ++ [y]))) else Pv (i + 1) H3) (hd : ∀ H, Pv n H → Qd H) :
    ∃ W : Nat → Nat → Hp → Prop, (∃ m, W 0 m (upd H1 D (.lst []))) ∧ ∀ i m H, W i m H →
      ((Itr lo n).stop i H ∧ Qd H) ∨ ((Itr lo n).go i H ∧ ∃ Nx : Hp → Prop, (∀ H', Nx H' → ∃ m', m' < m ∧ W (i + 1) m' H') ∧ ∀ x H', (Itr lo n).yld i H x H' → g x (wipe σ vs) H' fun σ2 H2 => wipe σ2 vs = wipe σ vs ∧ tt σ2 H2 fun b H3 =>
        if b = true then te σ2 H3 fun y H4 => ∃ acc, H4 D = some (.lst acc) ∧ acc.length < sizeLine ∧ Nx (upd H4 D (.lst (acc ++ [y]))) else Nx H3) := by
  refine ⟨fun i m H => m = n - i ∧ i ≤ n ∧ Pv i H, ⟨n, by simp, Nat.zero_le _, h0⟩, ?_⟩
  rintro i m H ⟨rfl, hi, p⟩
  by_cases hlt : i < n
  · refine .inr ⟨hlt, Pv (i + 1), fun H' p' => ⟨n - (i + 1), by omega, rfl, hlt, p'⟩, fun x H' y => ?_⟩
    obtain ⟨e, y⟩ := y
    subst e y
    exact hs i _ hlt p
  · have e : i = n := by omega
    subst e
    exact .inl ⟨Nat.le_refl _, hd H p⟩
/-- over a list that the block leaves as it is -/
theorem lc_list {K : PySem.W.Frag} {a : Addr} {xs : List V} {g : TG} {tt : TT} {te : TE} {vs : List Nat} {σ : St} {H1 : Hp} {D : Addr} {Qd : Hp → Prop} (Pv : Nat → Hp → Prop) (h0 : Pv 0 (upd H1 D (.lst []))) (hl : ∀ i H, i ≤ xs.length → Pv i H → SqL K H a xs)
    (hs : ∀ i x H, xs[i]? = some x → Pv i H → g x (wipe σ vs) H fun σ2 H2 => wipe σ2 vs = wipe σ vs ∧ tt σ2 H2 fun b H3 =>
      if b = true then te σ2 H3 fun y H4 => ∃ acc, H4 D = some (.lst acc) ∧ acc.length < sizeLine ∧ Pv (i + 1) (upd H4 D (.lst (acc ++ [y]))) else Pv (i + 1) H3) (hd : ∀ H, Pv xs.length H → Qd H) :
    ∃ W : Nat → Nat → Hp → Prop, (∃ m, W 0 m (upd H1 D (.lst []))) ∧ ∀ i m H, W i m H →
      ((Itl K a).stop i H ∧ Qd H) ∨ ((Itl K a).go i H ∧ ∃ Nx : Hp → Prop, (∀ H', Nx H' → ∃ m', m' < m ∧ W (i + 1) m' H') ∧ ∀ x H', (Itl K a).yld i H x H' → g x (wipe σ vs) H' fun σ2 H2 => wipe σ2 vs = wipe σ vs ∧ tt σ2 H2 fun b H3 =>
        if b = true then te σ2 H3 fun y H4 => ∃ acc, H4 D = some (.lst acc) ∧ acc.length < sizeLine ∧ Nx (upd H4 D (.lst (acc ++ [y]))) else Nx H3) := by
  refine ⟨fun i m H => m = xs.length - i ∧ i ≤ xs.length ∧ Pv i H, ⟨xs.length, by simp, Nat.zero_le _, h0⟩, ?_⟩
  rintro i m H ⟨rfl, hi, p⟩
  have q := hl i H hi p
  by_cases hlt : i < xs.length
  · refine .inr ⟨⟨xs, xs[i], q, by simp [hlt]⟩, Pv (i + 1), fun H' p' => ⟨xs.length - (i + 1), by omega, rfl, hlt, p'⟩, fun x H' y => ?_⟩
    obtain ⟨e, y⟩ := y
    subst e
    exact hs i x _ (y xs q) p
  · have e : i = xs.length := by omega
    subst e
    exact .inl ⟨⟨xs, q, Nat.le_refl _⟩, hd H p⟩
def blkC (N : List Str) (sc scope : Scope) (own : List (Str × Nat)) : Bool :=
  (match scope.kind with | .function => true | _ => false) && (scope.names.all fun y => decide (scope.names.lookup y.1 = some y.2)) && (own.all fun p => decide (N[p.2]? = some p.1)) &&
    (scope.names.all fun y => match y.2 with
      | .free => (match sc.names.lookup y.1 with | some .cell => true | some .free => true | _ => false)
      | .local => decide (y.1 ∈ own.map (·.1)) || decide (y.1 ∉ N)
      | .cell => decide (y.1 ∈ own.map (·.1)) || decide (y.1 ∉ N)
      | _ => true)
theorem blkOk_by {N : List Str} {sc scope : Scope} {own : List (Str × Nat)} (h : blkC N sc scope own = true) : BlkOk N sc scope own := by
  unfold blkC at h
  simp only [Bool.and_eq_true, List.all_eq_true, decide_eq_true_eq] at h
  obtain ⟨⟨⟨h1, h2⟩, h3⟩, h4⟩ := h
  refine ⟨?_, h2, h3, fun y hy e => ?_, fun y hy e => ?_⟩
  · split at h1
    · assumption
    · cases h1
  · have q := h4 y hy
    simp only [e] at q
    split at q <;> first | exact .inl (by assumption) | exact .inr (by assumption) | cases q
  · have q := h4 y hy
    rcases e with e | e <;> (simp only [e, Bool.or_eq_true, decide_eq_true_eq] at q; exact q)
end L2

namespace L2
open PySem PySem.Spec PyProof.Rows

section
variable {prog : Program} {w : World} {A : Around} {R : Result → Shared → Prop} {s : Shared} {elt t0 i0 t1 i1 : Expr} {ifs0 ifs1 : List Expr} {scope : Scope} {pos : Pos} {it acc : Value} {env : Env}
end

section
variable {X : Cx}
end
end L2

namespace L2
open PySem PySem.Spec PyProof.Rows

/-! ### lists of pairs as tables -/
section
variable {κ : Type} [DecidableEq κ]
end


/-! ### a tracked dict, its keys ints and texts or tuples of these -/
section
variable {P : Program} {w : World} {H : Hp} {h : Heap} {a : Addr}
end

section
variable {X : Cx} {pins : List (Addr × Obj)} {σ : St} {H : Hp} {s : Shared} {a : Addr} {y v : V} {u r : Value} {o : Option V} {A : Around} {E : Value → Shared → Prop}

end

section
variable {X : Cx} {pins : List (Addr × Obj)} {σ : St} {H : Hp} {s : Shared} {a : Addr} {kvs : List (Key × V)} {k : Key} {u : Value} {A : Around} {E : Value → Shared → Prop}
end


/-! ### readings and rules -/
section
variable {X : Cx} {o i e value : Expr} {pos pos' tpos : Pos} {td ty tv : TE}
end


/-! ### displays -/
section
variable {X : Cx} {pos : Pos}
end

/-! ### methods -/
/-- a method call o.m(e) of a built-in, with one argument: what must be seen of the text -/
structure M1 (X : Cx) (o : Expr) (m : Str) (apos : Pos) (e : Expr) (cpos : Pos) : Prop where
  base : attributeBase o m X.env (eval o X.env) = eval o X.env
  few : ((backTo cpos (starEach [e] X.env)).all (fun x => !x.1) && (backToKw cpos (keywordEach [] X.env)).all (fun x => x.1.isSome)
    && decide (([e] : List Expr).length + ([] : List Keyword).length + (if ([] : List Keyword).isEmpty then 0 else 1) < 30)) = true
  line : (apos.endLine == cpos.line) = true
  trees : backTo cpos (starEach [e] X.env) = [(false, eval e X.env)]
structure M2 (X : Cx) (o : Expr) (m : Str) (apos : Pos) (e f : Expr) (cpos : Pos) : Prop where
  base : attributeBase o m X.env (eval o X.env) = eval o X.env
  few : ((backTo cpos (starEach [e, f] X.env)).all (fun x => !x.1) && (backToKw cpos (keywordEach [] X.env)).all (fun x => x.1.isSome)
    && decide (([e, f] : List Expr).length + ([] : List Keyword).length + (if ([] : List Keyword).isEmpty then 0 else 1) < 30)) = true
  line : (apos.endLine == cpos.line) = true
  trees : backTo cpos (starEach [e, f] X.env) = [(false, eval e X.env), (false, eval f X.env)]

section
variable {X : Cx} {pins : List (Addr × Obj)} {σ : St} {H : Hp} {s : Shared} {a : Addr} {y d : V} {u r : Value} {o : Option V} {A : Around} {E : Value → Shared → Prop}
end

section
variable {X : Cx} {o e f : Expr} {apos cpos : Pos} {td ty tx : TE}
end

/-! ### dict(d): a copy -/
section
variable {X : Cx} {pins : List (Addr × Obj)} {σ : St} {H : Hp} {s : Shared} {a : Addr} {kvs : List (Key × V)} {A : Around} {E : Value → Shared → Prop}
end


section
variable {X : Cx} {pins : List (Addr × Obj)} {σ : St} {H : Hp} {s : Shared} {a : Addr} {y : V} {u : Value} {A : Around} {E : Value → Shared → Prop}
end
end L2

namespace L2
open PySem PySem.Spec PyProof.Rows

section
variable {prog : Program} {w : World} {A : Around} {E : Value → Shared → Prop}
end

section
variable {X : Cx}
end
end L2

namespace L2
open PySem PySem.Spec PyProof.Rows

section
variable {X : Cx} {pins : List (Addr × Obj)} {σ : St} {H : Hp} {s : Shared} {h' : Heap}
/-- .. and one new object is laid -/
theorem Inv.turnedNew {t' : Nat} {ch : List Addr} {T : Addr} {ob : HO} (I : Inv X pins σ H s) (k : ∀ b o, b ∉ ch → s.heap.get? b = some o → h'.get? b = some o) (hf : ∀ b ∈ ch, FpOk X pins H b) (hT : s.heap.objs.size ≤ T)
    (new : ObjOk X.prog X.w (upd H T ob) h' T ob) : Inv X pins σ (upd H T ob) { s with heap := h', toks := t' } := by
  have hn : H T = none := I.hok.fresh hT
  have nit : ∀ b u, H b = some u → b ∉ ch := fun b u e z => by
    have q := (hf b z).1
    rw [q] at e; cases e
  refine I.step (g' := s.gens) (d' := s.drawn) (ch := ch) (fun b hb => ⟨(hf b hb).2.2.2.1, (hf b hb).2.1, (hf b hb).2.2.2.2.1, (hf b hb).2.2.2.2.2⟩) (fun b o _ _ hc e _ => k b o hc e) (fun b o _ _ hc e _ => ⟨o.slots, k b o hc e⟩)
    (fun b o _ e n => ?_) (fun b o hc e => ⟨o, k b o hc e⟩) (fun b xs e => ?_) (fun b o u e => ?_) (fun b ps e => ⟨#[], ?_⟩) (fun m hm => ?_) (fun b u e => ?_) I.bare
  · rw [upd_ne (Nat.ne_of_lt (Nat.lt_of_lt_of_le (Heap.lt_size e) hT))]; exact n
  · rw [upd_ne (ne_of_none e hn)]; exact e
  · rw [upd_ne (ne_of_none e hn)]; exact e
  · rw [upd_ne (ne_of_none e hn), e]; simp
  · obtain ⟨o, es, ep, ho, r⟩ := hm
    exact ⟨o, es, ep, k _ o (fun z => (hf _ z).2.1 rfl) ho, r⟩
  · by_cases hb : b = T
    · subst hb
      rw [upd_same] at e
      cases e
      exact new
    · rw [upd_ne hb] at e
      refine (I.hok b u e).stay (fun c v hc q => k c v ?_ q) (fun c q => by rw [upd_ne (ne_of_none q hn)]; exact q) fun c xs q => by rw [upd_ne (ne_of_none q hn)]; exact q
      rcases hc with z | z
      · rw [z]; exact nit b u e
      · exact nit c _ z

/-! ### locking a thing while a statement runs -/
end
section
variable {X : Cx}
/-! ### one iterator just laid -/
end

/-! ### range with a step -/
section
variable {X : Cx} {tg : Expr}
end
/-! ### reversed(list) -/
section
variable {X : Cx} {tg : Expr}
end

/-! ### a str -/
/-! ### a dict's keys: any dict's entries -/
section
variable {prog : Program} {w : World} {A : Around} {E : Value → Shared → Prop} {s : Shared}
end

/-! ### a locked dict -/
section
variable {X : Cx} {pins : List (Addr × Obj)} {σ : St} {H : Hp} {s : Shared} {d : Addr} {o : Obj}
end

section
variable {P : Program} {w : World} {K : PySem.W.Frag} {tg : Expr} {d : Addr} {o : Obj} {es : Array DictEntry} {ep : Nat}
end

/-! ### for k in d, d.keys(), d.values(), d.items() -/
section
variable {X : Cx} {tg e : Expr} {td : TE} {apos cpos : Pos}
end

/-! ### enumerate(list) -/
/-- the list at a as it stands at each turn, each item in a new pair -/
def Ite (K : PySem.W.Frag) (a : Addr) : It :=
  ⟨fun i H => ∃ (xs : List V) (x : V), SqL K H a xs ∧ xs[i]? = some x, fun i H v H' => ∃ T x, v = .ref T ∧ H T = none ∧ H' = upd H T (.tup [.int (i : Nat), x]) ∧ ∀ xs, SqL K H a xs → xs[i]? = some x, fun i H => ∃ xs : List V, SqL K H a xs ∧ xs.length ≤ i⟩
theorem turn_enum {P : Program} {w : World} {K : PySem.W.Frag} {elts : List Expr} {kk : Nat} {tpos : Pos} (a e it : Addr) :
    Turn P w K (.Tuple elts kk tpos) (Ite K a) [e, it] e (fun i h => (∃ old, IsEnum h e it ((i : Nat) : Int) old) ∧ h.IsListIter it a i ∧ e ≠ it) where
  mem := by simp
  obj := fun i h st b hb => by
    obtain ⟨⟨old, he⟩, ⟨o, ho, hc, hd⟩, _⟩ := st
    have e' : b = e ∨ b = it := by simpa using hb
    rcases e' with z | z
    · rw [z]; exact ⟨_, he, fun v q => nomatch q⟩
    · rw [z]; exact ⟨o, ho, fun v q => by rw [hd] at q; cases q⟩
  keep := fun i h h' st k => let ⟨⟨old, he⟩, hi, hne⟩ := st; ⟨⟨old, k e (by simp) _ he⟩, hi.at fun o q => k it (by simp) o q, hne⟩
  item := by
    intro X hP hw hK hc i pins s σ H E I hf st hg
    subst hP hw hK
    obtain ⟨⟨old, he⟩, hit, hne⟩ := st
    obtain ⟨xs, x, hq, hx⟩ := hg
    obtain ⟨its, rv, p, hz⟩ := I.list hq
    obtain ⟨u, hu, ru⟩ := rv.get hx
    have hel : e < s.heap.objs.size := Heap.lt_size he
    have hil : it < s.heap.objs.size := by obtain ⟨_, q, _⟩ := hit; exact Heap.lt_size q
    refine wpAny_pyNext_enum_item he hit p.isList (x := u) (by simpa using hu) hne fun h' ho hit' hT hsz hk => ?_
    refine ⟨_, rfl, wpAny_letOwnedTupleGo_enum (s := { s with heap := h', toks := s.toks + 1 }) ho fun h'' he' sb => ?_⟩
    have hT2 : h''.get? s.heap.objs.size = some { cls := .type "tuple", data := .seq #[.int i s.toks, u] } := (sb.2 _ (Nat.ne_of_gt hel)).trans hT
    have new : ObjOk X.prog X.w (upd H s.heap.objs.size (.tup [.int (i : Nat), x])) h'' s.heap.objs.size (.tup [.int (i : Nat), x]) :=
      ⟨by show 2 ≤ sizeLine; decide, [.int i s.toks, u], .cons ⟨_, rfl⟩ (.cons ru .nil), ⟨_, hT2, rfl, _, rfl⟩⟩
    have I1 : Inv X pins σ (upd H s.heap.objs.size (.tup [.int (i : Nat), x])) { s with heap := h'', toks := s.toks + 1 } :=
      I.turnedNew (ch := [e, it]) (fun b ob hb q => (sb.2 b (fun z => hb (by simp [z]))).trans (hk b ob (fun z => hb (by simp [z])) (fun z => hb (by simp [z])) q)) hf (Nat.le_refl _) new
    refine ⟨.ref s.heap.objs.size, _, I1, rfl, ⟨_, x, rfl, I.hok.fresh (Nat.le_refl _), rfl, fun ys hy => by rw [I.list_inj hy hq]; exact hx⟩, ⟨⟨u, ?_⟩, hit'.at fun o q => (sb.2 it (Ne.symm hne)).trans q, hne⟩, fun b hb => ?_⟩
    · have e1 : ((i + 1 : Nat) : Int) = (i : Int) + 1 := by omega
      rw [e1]; exact he'
    · have hb' : b < s.heap.objs.size := by
        have e' : b = e ∨ b = it := by simpa using hb
        rcases e' with z | z
        · rw [z]; exact hel
        · rw [z]; exact hil
      rw [upd_ne (Nat.ne_of_lt hb')]
      exact (hf b hb).1
  done := by
    intro X hP hw hK hc i pins s σ H E I hf st hg
    subst hP hw hK
    obtain ⟨⟨old, he⟩, hit, hne⟩ := st
    obtain ⟨xs, hq, hx⟩ := hg
    obtain ⟨its, rv, p, hz⟩ := I.list hq
    obtain ⟨f0, f1, f2, f3, f4, f5⟩ := hf it (by simp)
    have hl := rv.length
    exact wpAny_pyNext_enum_end (I.ok.hd hc) he hit p.isList (by simp; omega) fun h' eb => ⟨rfl, I.turned (t' := s.toks) (fun b o hb q => eb b o hb q) f0 f1 f3 f4 f5⟩
  self := fun A i s Q E st h => let ⟨⟨_, he⟩, _⟩ := st; wpAny_pyIter_enum he h
def iEnum (K : PySem.W.Frag) (ta : TA) : TI := fun σ H R => ta σ H fun vs H1 => ∃ a xs, vs = [.ref a] ∧ SqL K H1 a xs ∧ R (Ite K a) H1
theorem pi_enum {X : Cx} {e : Expr} {ta : TA} {p pos tpos : Pos} {elts : List Expr} {kk : Nat} (hg : Gl X "enumerate") (hm : X.mg "enumerate" = none) (ha : PA X [e] ta) (hs : starEach [e] X.env = [(false, eval e X.env)] := by rfl) :
    PI X (.Tuple elts kk tpos) (.Call (.Name "enumerate" p) [e] [] pos) (iEnum X.K ta) := by
  intro pins s σ H R I h
  refine Call_ (ld_blt I hg hm boot_enumerate (PyProof.Rows.callWith_type1 (thn (ha pos pins s σ H _ I h) fun us s1 ⟨vs, H1, I1, r1, q1⟩ => ?_) hs rfl))
  obtain ⟨a, xs, ex, hq, q⟩ := q1
  subst ex
  cases r1 with
  | cons r rr =>
    cases rr
    cases r
    obtain ⟨its, rv, p', hz⟩ := I1.list hq
    refine call_enumerate_list p'.isList fun h' he hit hsz hk => wpAny_pyIter_enum he ?_
    have I2 : Inv X pins σ H1 { s1 with heap := h' } := I1.kept (t' := s1.toks) hk
    refine ⟨s1.heap.objs.size + 1, [s1.heap.objs.size + 1, s1.heap.objs.size], _, _, H1, rfl, I2, turn_enum a (s1.heap.objs.size + 1) s1.heap.objs.size, ⟨⟨.none, he⟩, hit, Nat.succ_ne_self _⟩, fun b hb => ?_, q⟩
    have e' : b = s1.heap.objs.size + 1 ∨ b = s1.heap.objs.size := by simpa using hb
    have hle : s1.heap.objs.size ≤ b := by
      rcases e' with z | z
      · rw [z]; exact Nat.le_add_right _ _
      · rw [z]; exact Nat.le_refl _
    exact I1.fpOk hle (I1.hok.fresh hle)
/-! ### zip(list, list) -/
/-- the lists at a and b as they stand at each turn, the items in new pairs -/
def Itz (K : PySem.W.Frag) (a b : Addr) : It :=
  ⟨fun i H => ∃ (xs ys : List V) (x y : V), SqL K H a xs ∧ SqL K H b ys ∧ xs[i]? = some x ∧ ys[i]? = some y,
    fun i H v H' => ∃ T x y, v = .ref T ∧ H T = none ∧ H' = upd H T (.tup [x, y]) ∧ (∀ xs, SqL K H a xs → xs[i]? = some x) ∧ ∀ ys, SqL K H b ys → ys[i]? = some y,
    fun i H => ∃ xs ys : List V, SqL K H a xs ∧ SqL K H b ys ∧ (xs.length ≤ i ∨ ys.length ≤ i)⟩
end L2

section 
namespace Bits
open PySem PyProof.Rows

end Bits
end 

section 
namespace TL
open PySem PySem.Builtin PySem.Builtin.Str PySem.StrLaws

/-! ### the list functions -/
/-! ### the model's split and partition are these -/
/-! ### computing spl and par -/
/-! ### digits -/
/-! ### words: x.split() -/
end TL
end 

namespace L2
open PySem PySem.Spec PyProof.Rows

section
variable {X : Cx} {pins : List (Addr × Obj)} {σ : St} {H : Hp} {s : Shared} {Q : VK}
end

section
variable {X : Cx}

/-! ### of a text alone -/
/-! ### of a text and a text -/
end

section
variable {X : Cx} {o e : Expr} {to te : TE}
end
end L2

namespace L2
open PySem PySem.Spec PyProof.Rows

section
variable {X : Cx}
end

/-! ### slices of a text -/
end L2

namespace Att
open PySem PySem.W PySem.Calls PyProof.Rows

/-! ### the script -/
/-! ### the attachment: holds_open's last premise (the goal 'hc' behind k_head) from a wpAny of the law's body -/
/-! ### rules over ANY heap (no ledger) from facts about the written part K: the library's own take a ledger (News) for what they write -/
section
variable {prog : Program} {w : World} {A : Around} {E : Value → Shared → Prop} {s : Shared} {K : Frag}

/-! the whole heap as the ledger: makes every rule that writes through a ledger a rule over any heap -/
end
end Att

namespace L2
open PySem PySem.Spec PyProof.Rows

end L2

namespace L2
open PySem PySem.Spec PyProof.Rows

abbrev KOf {K : PySem.W.Frag} {h : Heap} (_ : K.In h) : PySem.W.Frag := K

end L2

/-! SHORT WORDS over the layer: a def of the text, its body, what a loop and a test want. -/
namespace L2
open PySem PySem.Spec PyProof.Rows

/-! ### the text by places -/
def defArgs (s : Stmt) : Arguments := match s with
  | .FunctionDef _ a _ _ _ _ _ _ _ _ => a
  | _ => { posonlyargs := [], args := [], vararg := none, kwonlyargs := [], kw_defaults := [], kwarg := none, defaults := [] }
def defBody (s : Stmt) : List Stmt := match s with
  | .FunctionDef _ _ b _ _ _ _ _ _ _ => b
  | _ => []
def defScope (s : Stmt) : Scope := match s with
  | .FunctionDef _ _ _ _ _ _ sc _ _ _ => sc
  | _ => { kind := .function, names := [], isGenerator := false, isCoroutine := false }

/-! ### no exception leaves a def -/
abbrev CX0 : CXT := fun _ _ _ _ _ _ => False
abbrev E0 : XK := fun _ _ _ => False
theorem pass0 {X : Cx} : Passes CX0 X E0 := fun _ _ _ _ _ _ _ h => h.elim

/-! ### a def (or method) of the text as it stands behind the top -/
structure Fun (K : PySem.W.Frag) (x qual : Str) (st : Stmt) (f : Addr) (fd : FuncData) : Prop where
  ex : ∃ (oc : Value) (od : Option Addr) (kV doc pm : Value) (an : Option Addr) (cdv ct : Value) (osl : Array (Option Value)),
    fd = PySem.W.fnOf x qual (defArgs st) (defBody st) (defScope st) .none kV doc pm an cdv ct ∧ K.lookup f = some ⟨oc, od, .func fd, osl⟩ ∧ PySem.W.codeIn K cdv qual = true
  kp : PySem.W.keepIn K (.ref f) = true
section
variable {P : Program} {w : World} {K : PySem.W.Frag} {mg : Str → Option Value} {base : Heap}
/-- THE RULE for a def: its body as a term of rules, and the reading of that term -/
theorem Fun.ok {x qual : Str} {st : Stmt} {f : Addr} {fd : FuncData} {N ps : List Str} {k : Nat} {sp : Sp} (F : Fun K x qual st f fd) (S : FnScope N ps (defScope st)) (len : ∀ vs H Q E, sp vs H Q E → vs.length = ps.length)
    (hbody : ∀ (cdv : Value) (A : Around) (outer : List Env) (s : Shared) (H : Hp) (vs : List V) (Q : VK) (E : XK), Room k (A.deeper (envOfC qual (defScope st) s.heap.objs.size f cdv)) → sp vs H Q E →
      ∃ t, PSs (cxOf CX0 P w K mg base N qual (defScope st) f cdv A outer s H E).nox (defBody st) t ∧ t { nx := fun _ H' => Q .non H', rt := Q } (start N vs) H) : FnOk P w K mg base CX0 (k + 1) f fd ps sp := by
  obtain ⟨oc, od, kV, doc, pm, an, cdv, ct, osl, rfl, lk, hcd⟩ := F.ex
  refine fn_of lk hcd S len fun A outer s H vs Q E hr hsp => ?_
  obtain ⟨t, h, q⟩ := hbody cdv A outer s H vs Q E hr hsp
  exact ⟨t, h.nox, q⟩
theorem fun_mk {x qual : Str} {st : Stmt} {f : Addr} {oc : Value} {od an : Option Addr} {osl : Array (Option Value)} {kV doc pm cdv ct : Value} (l : K.lookup f = some ⟨oc, od, .func (PySem.W.fnOf x qual (defArgs st) (defBody st) (defScope st) .none kV doc pm an cdv ct), osl⟩)
    (c : PySem.W.codeIn K cdv qual = true) (k : PySem.W.keepIn K (.ref f) = true) : Fun K x qual st f (PySem.W.fnOf x qual (defArgs st) (defBody st) (defScope st) .none kV doc pm an cdv ct) := ⟨⟨oc, od, kV, doc, pm, an, cdv, ct, osl, rfl, l, c⟩, k⟩
end
theorem small1000 {n : Nat} (h : n ≤ 1000) : n < sizeLine := Nat.lt_of_le_of_lt h (by decide)

/-! ### expressions in short: the name that stands in the i-th slot -/
section
variable {X : Cx}
theorem pv (i : Nat) {x : Str} {pos : Pos} (hN : X.N[i]? = some x := by rfl) (hv : Vis X.env.scope x := by first | exact Or.inl rfl | exact Or.inr (Or.inl rfl) | exact Or.inr (Or.inr rfl)) (hd : (x == ("__debug__" : Str)) = false := by decide)
    (hcd : (x == ("__classdict__" : Str)) = false := by decide) : PE X (.Name x pos) (tVar i) := pe_var hN hv hd hcd
end

/-! ### tests -/
theorem iteF {A B : Prop} (h : B) : if false = true then A else B := by
  rw [if_neg Bool.false_ne_true]
  exact h
theorem iteT {A B : Prop} (h : A) : if true = true then A else B := by
  rw [if_pos rfl]
  exact h
theorem ite2 {c A B : Prop} [Decidable c] (h1 : c → A) (h2 : ¬ c → B) : if c then A else B := by
  by_cases h : c
  · rw [if_pos h]
    exact h1 h
  · rw [if_neg h]
    exact h2 h
/-! ### heaps -/
/-- all that was tracked is as it was -/
def Same (H H' : Hp) : Prop := ∀ b o, H b = some o → H' b = some o
theorem Same.trans {H H1 H2 : Hp} (a : Same H H1) (b : Same H1 H2) : Same H H2 := fun c o h => b c o (a c o h)
theorem Same.free {H H' : Hp} (e : Same H H') {l : Addr} (h : H' l = Option.none) : H l = Option.none := by
  cases q : H l with
  | none => rfl
  | some o =>
    rw [e l o q] at h
    cases h
theorem Same.seq {K : PySem.W.Frag} {H H' : Hp} {a : Addr} {xs : List V} (e : Same H H') (h : SqL K H a xs) : SqL K H' a xs := by
  rcases h with (h | ⟨o, h⟩) | h
  · exact .inl (.inl (e _ _ h))
  · exact .inl (.inr ⟨o, e _ _ h⟩)
  · exact .inr h

/-! ### a dict's pairs: keys that differ -/
section
variable {κ : Type} [DecidableEq κ]
end
/-! ### lists -/
end L2

section
set_option Elab.async false
set_option linter.all false
set_option maxRecDepth 100000
set_option maxHeartbeats 2000000
namespace L2
open PySem PySem.Spec PyProof.Rows
open PySem.W (WData Codec OpenSpec Well WellAll ReadsW ReadsAllW)
/-! ### an answer as data -/
mutual
/-- x stands for the datum d, lists and tuples all the way -/
inductive Dw (K : PySem.W.Frag) (H : Hp) : V → WData → Prop
  | non : Dw K H .non .none
  | bl (b : Bool) : Dw K H (.bl b) (.bool b)
  | int (i : Int) : Dw K H (.int i) (.int i)
  | str (x : Str) : Dw K H (.str x) (.str x)
  | byt (b : Array UInt8) : Dw K H (.byt b) (.bytes b.toList)
  | lst {a : Addr} {xs : List V} {ds : List WData} : SqL K H a xs → DwAll K H xs ds → Dw K H (.ref a) (.list ds)
  | tup {a : Addr} {xs : List V} {ds : List WData} : SqT K H a xs → DwAll K H xs ds → Dw K H (.ref a) (.tuple ds)
inductive DwAll (K : PySem.W.Frag) (H : Hp) : List V → List WData → Prop
  | nil : DwAll K H [] []
  | cons {v : V} {vs : List V} {d : WData} {ds : List WData} : Dw K H v d → DwAll K H vs ds → DwAll K H (v :: vs) (d :: ds)
end
theorem dw_ints {K : PySem.W.Frag} {H : Hp} : ∀ ns : List Int, DwAll K H (ns.map V.int) (ns.map WData.int)
  | [] => .nil
  | n :: r => .cons (.int n) (dw_ints r)
theorem ints_dw {K : PySem.W.Frag} {H : Hp} : ∀ (ns : List Int) (xs : List V), DwAll K H xs (ns.map WData.int) → xs = ns.map V.int
  | [], xs, h => by
    cases h
    rfl
  | n :: r, xs, h => by
    cases h with
    | cons h1 h2 =>
      cases h1
      rw [ints_dw r _ h2] <;> rfl
section
variable {P : Program} {w : World} {K : PySem.W.Frag} {H : Hp} {h : Heap} {R : PySem.W.WRecords} {cl : Str → Option Addr}
theorem sqL_at {a : Addr} {xs : List V} (hok : HOk P w H h) (KX : K.In h) (q : SqL K H a xs) : ∃ (its : List Value) (o : Obj) (n : Nat), Vals xs its ∧ h.get? a = some o ∧ o.cls = .type "list" ∧ o.data = .seq its.toArray n := by
  rcases q with q | ⟨o, its, n, e, hc, _, hd, _, hv⟩
  · obtain ⟨_, its, n, hv, e⟩ := (show ObjOk P w H h a (.lst xs) from q.ok hok)
    exact ⟨its, _, n, hv, e, rfl, rfl⟩
  · exact ⟨its.toList, o, n, hv, KX _ _ e, hc, by simp [hd]⟩
theorem sqT_at {a : Addr} {xs : List V} (hok : HOk P w H h) (KX : K.In h) (q : SqT K H a xs) : ∃ (its : List Value) (o : Obj) (n : Nat), Vals xs its ∧ h.get? a = some o ∧ o.cls = .type "tuple" ∧ o.data = .seq its.toArray n := by
  rcases q with q | ⟨o, its, n, e, hc, hd, _, hv⟩
  · obtain ⟨_, its, hv, o, e, hc, n, hd⟩ := (show ObjOk P w H h a (.tup xs) from q.ok hok)
    exact ⟨its, o, n, hv, e, hc, hd⟩
  · exact ⟨its.toList, o, n, hv, KX _ _ e, hc, by simp [hd]⟩
mutual
theorem Dw.reads (hok : HOk P w H h) (KX : K.In h) : ∀ (d : WData) (v : V) (u : Value), Dw K H v d → RelV v u → ∃ as, ReadsW R cl h u d as
  | .none, _, _, x, r => by
    cases x
    cases r
    exact ⟨_, ReadsW.none⟩
  | .bool b, _, _, x, r => by
    cases x
    cases r
    exact ⟨_, ReadsW.bool b⟩
  | .int i, _, _, x, r => by
    cases x
    obtain ⟨t, rfl⟩ := r
    exact ⟨_, ReadsW.int i t⟩
  | .str s, _, _, x, r => by
    cases x
    obtain ⟨t, rfl⟩ := r
    exact ⟨_, ReadsW.str s t⟩
  | .bytes b, _, _, x, r => by
    cases x
    obtain ⟨t, rfl⟩ := r
    exact ⟨_, ReadsW.bytes _ t⟩
  | .list ds, _, _, x, r => by
    cases x with
    | lst hs ha =>
      cases r
      obtain ⟨its, o, n, rv, ho, hc, hd⟩ := sqL_at hok KX hs
      obtain ⟨as, hr⟩ := Dw.readsAll hok KX ds _ its ha rv
      exact ⟨_, ReadsW.list ho hc hd hr⟩
  | .tuple ds, _, _, x, r => by
    cases x with
    | tup hs ha =>
      cases r
      obtain ⟨its, o, n, rv, ho, hc, hd⟩ := sqT_at hok KX hs
      obtain ⟨as, hr⟩ := Dw.readsAll hok KX ds _ its ha rv
      exact ⟨_, ReadsW.tuple ho hc hd hr⟩
  | .float _, _, _, x, _ => by cases x
  | .dict _, _, _, x, _ => by cases x
  | .bytearray _, _, _, x, _ => by cases x
  | .set _, _, _, x, _ => by cases x
  | .frozenset _, _, _, x, _ => by cases x
  | .obj _ _, _, _, x, _ => by cases x
theorem Dw.readsAll (hok : HOk P w H h) (KX : K.In h) : ∀ (ds : List WData) (vs : List V) (us : List Value), DwAll K H vs ds → Vals vs us → ∃ as, ReadsAllW R cl h us ds as
  | [], _, _, x, r => by
    cases x
    cases r
    exact ⟨_, ReadsAllW.nil⟩
  | d :: ds, _, _, x, r => by
    cases x with
    | cons h1 h2 =>
      cases r with
      | cons r1 r2 =>
        obtain ⟨as, q1⟩ := Dw.reads hok KX d _ _ h1 r1
        obtain ⟨bs, q2⟩ := Dw.readsAll hok KX ds _ _ h2 r2
        exact ⟨_, ReadsAllW.cons q1 q2⟩
end
end
/-! ### the arguments -/
mutual
/-- data that a codec tells -/
def plW : WData → Bool
  | .none => true
  | .bool _ => true
  | .int _ => true
  | .str _ => true
  | .bytes _ => true
  | .list xs => plWs xs
  | .tuple xs => plWs xs
  | _ => false
def plWs : List WData → Bool
  | [] => true
  | x :: r => plW x && plWs r
end
theorem plWs_map {α : Type} {f : α → WData} (h : ∀ a, plW (f a) = true) : ∀ l : List α, plWs (l.map f) = true
  | [] => rfl
  | x :: r => by
    show (plW (f x) && plWs (r.map f)) = true
    rw [h x, plWs_map h r] <;> rfl
theorem pl_enc : ∀ (c : Codec) (a : c.denote), plW (c.enc a) = true
  | .unit, _ => rfl
  | .bool, _ => rfl
  | .int _ _, _ => rfl
  | .nat _ _, _ => rfl
  | .u8, _ => rfl
  | .bytes _ _, _ => rfl
  | .text _ _ _ _, _ => rfl
  | .list _ _ c, a => plWs_map (fun x => pl_enc c x) a
  | .pair c d, a => by
    show (plW (c.enc a.1) && (plW (d.enc a.2) && true)) = true
    rw [pl_enc c a.1, pl_enc d a.2] <;> rfl
  | .triple c d e, a => by
    show (plW (c.enc a.1) && (plW (d.enc a.2.1) && (plW (e.enc a.2.2) && true))) = true
    rw [pl_enc c a.1, pl_enc d a.2.1, pl_enc e a.2.2] <;> rfl
  | .option c, none => rfl
  | .option c, some x => pl_enc c x
theorem pl_encAll : ∀ (cs : List Codec) (a : Codec.denoteAll cs), plWs (Codec.encAll cs a) = true
  | [], _ => rfl
  | c :: cs, a => by
    show (plW (c.enc a.1) && plWs (Codec.encAll cs a.2)) = true
    rw [pl_enc c a.1, pl_encAll cs a.2] <;> rfl
theorem weight_mem : ∀ {xs : List WData} {d : WData}, d ∈ xs → d.weight ≤ WData.weightAll xs
  | [], d, h => absurd h (by simp)
  | x :: r, d, h => by
    show d.weight ≤ x.weight + 1 + WData.weightAll r
    rcases List.mem_cons.mp h with e | m
    · rw [e]
      omega
    · have z := weight_mem m
      omega
def toV : Value → V
  | .none => .non
  | .bool b => .bl b
  | .int i _ => .int i
  | .str x _ => .str x
  | .bytes b _ => .byt b
  | .ref a => .ref a
  | _ => .non
/-- a value of the arguments, its objects among A -/
def OkU (A : List Addr) : Value → Prop
  | .none => True
  | .bool _ => True
  | .int _ _ => True
  | .str _ _ => True
  | .bytes _ _ => True
  | .ref a => a ∈ A
  | _ => False
theorem OkU.mono {A B : List Addr} (h : ∀ a ∈ A, a ∈ B) : ∀ {u : Value}, OkU A u → OkU B u := fun {u} x => by
  cases u with
  | ref a => exact h a x
  | none => trivial
  | bool b => trivial
  | int i t => trivial
  | str s t => trivial
  | bytes b t => trivial
  | _ => exact False.elim x
theorem relV_toV {A : List Addr} {u : Value} (x : OkU A u) : RelV (toV u) u := by
  cases u with
  | ref a => rfl
  | none => rfl
  | bool b => rfl
  | int i t => exact ⟨t, rfl⟩
  | str s t => exact ⟨t, rfl⟩
  | bytes b t => exact ⟨t, rfl⟩
  | _ => exact False.elim x
theorem vals_toV {A : List Addr} : ∀ {vs : List Value}, (∀ u ∈ vs, OkU A u) → Vals (vs.map toV) vs
  | [], _ => .nil
  | u :: r, h => .cons (relV_toV (h u (List.mem_cons_self ..))) (vals_toV fun x hx => h x (List.mem_cons_of_mem _ hx))
/-- an object of the arguments -/
def ArgOb (h : Heap) (A : List Addr) (a : Addr) : Prop := ∃ vs : List Value, vs.length ≤ sizeLine ∧ (∀ u ∈ vs, OkU A u) ∧
  (h.get? a = some { cls := .type "list", data := .seq vs.toArray } ∨ h.get? a = some { cls := .type "tuple", data := .seq vs.toArray })
theorem ArgOb.mono {h : Heap} {A B : List Addr} {a : Addr} (k : ∀ a ∈ A, a ∈ B) (x : ArgOb h A a) : ArgOb h B a := by
  obtain ⟨vs, h1, h2, h3⟩ := x
  exact ⟨vs, h1, fun u hu => (h2 u hu).mono k, h3⟩
theorem wellAll_len {P : Params} {h : Heap} : ∀ {vs : List Value} {ds : List WData}, WellAll P h vs ds → vs.length = ds.length
  | _, _, .nil => rfl
  | _, _, .cons _ b => by
    show _ + 1 = _ + 1
    rw [wellAll_len b]
theorem well_list {P : Params} {h : Heap} {v : Value} {ds : List WData} (x : Well P h v (.list ds)) : ∃ (a : Addr) (vs : List Value), v = .ref a ∧ h.get? a = some { cls := .type "list", data := .seq vs.toArray } ∧ WellAll P h vs ds := by
  cases x with
  | list ho hall => exact ⟨_, _, rfl, ho, hall⟩
theorem well_tuple {P : Params} {h : Heap} {v : Value} {ds : List WData} (x : Well P h v (.tuple ds)) : ∃ (a : Addr) (vs : List Value), v = .ref a ∧ h.get? a = some { cls := .type "tuple", data := .seq vs.toArray } ∧ WellAll P h vs ds := by
  cases x with
  | tuple ho hall => exact ⟨_, _, rfl, ho, hall⟩
theorem well_cons {P : Params} {h : Heap} {us : List Value} {d : WData} {ds : List WData} (x : WellAll P h us (d :: ds)) : ∃ (v : Value) (vs : List Value), us = v :: vs ∧ Well P h v d ∧ WellAll P h vs ds := by
  cases x with
  | cons a b => exact ⟨_, _, rfl, a, b⟩
theorem line_of {n : Nat} (h : n ≤ 1048576) : n ≤ sizeLine := Nat.le_trans h (by decide)
section
variable {P : Params} {h : Heap}
mutual
theorem area_one : ∀ (d : WData) (v : Value), Well P h v d → plW d = true → d.weight ≤ 1048576 → ∃ A : List Addr, OkU A v ∧ ∀ a ∈ A, ArgOb h A a
  | .none, _, x, _, _ => by
    cases x
    exact ⟨[], trivial, fun a m => absurd m (by simp)⟩
  | .bool b, _, x, _, _ => by
    cases x
    exact ⟨[], trivial, fun a m => absurd m (by simp)⟩
  | .int i, _, x, _, _ => by
    cases x
    exact ⟨[], trivial, fun a m => absurd m (by simp)⟩
  | .str s, _, x, _, _ => by
    cases x
    exact ⟨[], trivial, fun a m => absurd m (by simp)⟩
  | .bytes b, _, x, _, _ => by
    cases x
    exact ⟨[], trivial, fun a m => absurd m (by simp)⟩
  | .list ds, _, x, p, z => by
    obtain ⟨a, vs, rfl, ho, hall⟩ := well_list x
    have z2 : WData.weightAll ds ≤ 1048576 := z
    obtain ⟨A, h1, h2⟩ := area_all ds _ hall p fun d hd => Nat.le_trans (weight_mem hd) z2
    have k : ∀ b ∈ A, b ∈ a :: A := fun b hb => List.mem_cons_of_mem _ hb
    refine ⟨a :: A, List.mem_cons_self .., fun b hb => ?_⟩
    rcases List.mem_cons.mp hb with e | m
    · rw [e]
      exact ⟨vs, line_of (by rw [wellAll_len hall]; exact Nat.le_trans (PySem.W.length_le_weightAllW ds) z2), fun u hu => (h1 u hu).mono k, .inl ho⟩
    · exact (h2 b m).mono k
  | .tuple ds, _, x, p, z => by
    obtain ⟨a, vs, rfl, ho, hall⟩ := well_tuple x
    have z2 : WData.weightAll ds ≤ 1048576 := z
    obtain ⟨A, h1, h2⟩ := area_all ds _ hall p fun d hd => Nat.le_trans (weight_mem hd) z2
    have k : ∀ b ∈ A, b ∈ a :: A := fun b hb => List.mem_cons_of_mem _ hb
    refine ⟨a :: A, List.mem_cons_self .., fun b hb => ?_⟩
    rcases List.mem_cons.mp hb with e | m
    · rw [e]
      exact ⟨vs, line_of (by rw [wellAll_len hall]; exact Nat.le_trans (PySem.W.length_le_weightAllW ds) z2), fun u hu => (h1 u hu).mono k, .inr ho⟩
    · exact (h2 b m).mono k
  | .float _, _, _, p, _ => Bool.noConfusion (show false = true from p)
  | .dict _, _, _, p, _ => Bool.noConfusion (show false = true from p)
  | .bytearray _, _, _, p, _ => Bool.noConfusion (show false = true from p)
  | .set _, _, _, p, _ => Bool.noConfusion (show false = true from p)
  | .frozenset _, _, _, p, _ => Bool.noConfusion (show false = true from p)
  | .obj _ _, _, _, p, _ => Bool.noConfusion (show false = true from p)
theorem area_all : ∀ (ds : List WData) (vs : List Value), WellAll P h vs ds → plWs ds = true → (∀ d ∈ ds, d.weight ≤ 1048576) → ∃ A : List Addr, (∀ u ∈ vs, OkU A u) ∧ ∀ a ∈ A, ArgOb h A a
  | [], _, x, _, _ => by
    cases x
    exact ⟨[], fun u m => absurd m (by simp), fun a m => absurd m (by simp)⟩
  | d :: ds, _, x, p, z => by
    obtain ⟨v, vs, rfl, x1, x2⟩ := well_cons x
    have q : plW d = true ∧ plWs ds = true := Bool.and_eq_true_iff.mp p
    obtain ⟨A, a1, a2⟩ := area_one d v x1 q.1 (z d (List.mem_cons_self ..))
    obtain ⟨B, b1, b2⟩ := area_all ds vs x2 q.2 fun e he => z e (List.mem_cons_of_mem _ he)
    have kA : ∀ b ∈ A, b ∈ A ++ B := fun b hb => List.mem_append.mpr (.inl hb)
    have kB : ∀ b ∈ B, b ∈ A ++ B := fun b hb => List.mem_append.mpr (.inr hb)
    refine ⟨A ++ B, fun u hu => ?_, fun b hb => ?_⟩
    · rcases List.mem_cons.mp hu with e | m
      · rw [e]
        exact a1.mono kA
      · exact (b1 u m).mono kB
    · rcases List.mem_append.mp hb with m | m
      · exact (a2 b m).mono kA
      · exact (b2 b m).mono kB
end
end
/-- what is tracked of an argument's object -/
def hoOf (o : Obj) : Option HO := match o.data with
  | .seq vs _ => if (o.cls == Value.type "list") = true then some (.frz o (.lst (vs.toList.map toV))) else some (.frz o (.tup (vs.toList.map toV)))
  | _ => none
def argH (K : PySem.W.Frag) (h : Heap) (A : List Addr) : Hp := fun b => if b ∈ A then (if (K.lookup b).isNone = true then (h.get? b).bind hoOf else none) else none
/-- nothing is tracked but what is known to the object -/
def OnlyF (H : Hp) : Prop := ∀ b, H b = none ∨ ∃ o u, H b = some (.frz o u)
theorem hoOf_lst (vs : List Value) : hoOf { cls := .type "list", data := .seq vs.toArray } = some (.frz { cls := .type "list", data := .seq vs.toArray } (.lst (vs.map toV))) := by
  show (if (Value.type "list" == Value.type "list") = true then some (HO.frz { cls := .type "list", data := .seq vs.toArray } (.lst (vs.toArray.toList.map toV))) else some (HO.frz { cls := .type "list", data := .seq vs.toArray } (.tup (vs.toArray.toList.map toV)))) = _
  rw [if_pos (beq_self_eq_true _)]
theorem hoOf_tup (vs : List Value) : hoOf { cls := .type "tuple", data := .seq vs.toArray } = some (.frz { cls := .type "tuple", data := .seq vs.toArray } (.tup (vs.map toV))) := by
  show (if (Value.type "tuple" == Value.type "list") = true then some (HO.frz { cls := .type "tuple", data := .seq vs.toArray } (.lst (vs.toArray.toList.map toV))) else some (HO.frz { cls := .type "tuple", data := .seq vs.toArray } (.tup (vs.toArray.toList.map toV)))) = _
  rw [if_neg (by decide)]
section
variable {P : Program} {w : World} {K : PySem.W.Frag} {h : Heap} {A : List Addr}
theorem argH_at {b : Addr} {o : Obj} (hb : b ∈ A) (hk : K.lookup b = none) (e : h.get? b = some o) : argH K h A b = hoOf o := by
  unfold argH
  rw [if_pos hb, hk, if_pos (show (none : Option Obj).isNone = true from rfl), e] <;> rfl
theorem of_argH {b : Addr} {u : HO} (q : argH K h A b = some u) : b ∈ A ∧ K.lookup b = none := by
  unfold argH at q
  by_cases hb : b ∈ A
  · rw [if_pos hb] at q
    cases hk : K.lookup b with
    | none => exact ⟨hb, rfl⟩
    | some o =>
      rw [hk, if_neg (by simp)] at q
      cases q
  · rw [if_neg hb] at q
    cases q
/-- what stands tracked -/
theorem argH_is (ar : ∀ a ∈ A, ArgOb h A a) {b : Addr} {u : HO} (q : argH K h A b = some u) : K.lookup b = none ∧ ∃ vs : List Value, vs.length ≤ sizeLine ∧ (∀ u ∈ vs, OkU A u) ∧
    ((h.get? b = some { cls := .type "list", data := .seq vs.toArray } ∧ u = .frz { cls := .type "list", data := .seq vs.toArray } (.lst (vs.map toV))) ∨
     (h.get? b = some { cls := .type "tuple", data := .seq vs.toArray } ∧ u = .frz { cls := .type "tuple", data := .seq vs.toArray } (.tup (vs.map toV)))) := by
  obtain ⟨hb, hk⟩ := of_argH q
  obtain ⟨vs, h1, h2, h3⟩ := ar b hb
  refine ⟨hk, vs, h1, h2, ?_⟩
  rcases h3 with e | e
  · rw [argH_at hb hk e, hoOf_lst] at q
    exact .inl ⟨e, (Option.some.inj q).symm⟩
  · rw [argH_at hb hk e, hoOf_tup] at q
    exact .inr ⟨e, (Option.some.inj q).symm⟩
theorem argH_only (ar : ∀ a ∈ A, ArgOb h A a) : OnlyF (argH K h A) := fun b => by
  cases q : argH K h A b with
  | none => exact .inl rfl
  | some u =>
    obtain ⟨_, vs, _, _, ⟨_, e⟩ | ⟨_, e⟩⟩ := argH_is ar q
    · exact .inr ⟨_, _, by rw [e]⟩
    · exact .inr ⟨_, _, by rw [e]⟩
theorem argH_ok (ar : ∀ a ∈ A, ArgOb h A a) : HOk P w (argH K h A) h := fun b u q => by
  obtain ⟨_, vs, h1, h2, ⟨e, rfl⟩ | ⟨e, rfl⟩⟩ := argH_is ar q
  · exact ⟨e, by rw [List.length_map]; exact h1, vs, _, vals_toV h2, e⟩
  · exact ⟨e, by rw [List.length_map]; exact h1, vs, vals_toV h2, _, e, rfl, _, rfl⟩
theorem seq_inj {c c' : Value} {vs us : List Value} (e : (some { cls := c, data := .seq vs.toArray } : Option Obj) = some { cls := c', data := .seq us.toArray }) : c = c' ∧ vs = us := by
  have e1 := Option.some.inj e
  have e2 : c = c' := congrArg Obj.cls e1
  have e3 : Data.seq vs.toArray = Data.seq us.toArray := congrArg Obj.data e1
  injection e3 with e4
  refine ⟨e2, ?_⟩
  have e5 := congrArg Array.toList e4
  simpa using e5
/-- a list argument -/
theorem argL (KX : K.In h) (ar : ∀ a ∈ A, ArgOb h A a) {a : Addr} {vs : List Value} (ha : a ∈ A) (e : h.get? a = some { cls := .type "list", data := .seq vs.toArray }) : (∀ u ∈ vs, OkU A u) ∧ SqL K (argH K h A) a (vs.map toV) := by
  obtain ⟨us, h1, h2, h3⟩ := ar a ha
  have hu : us = vs := by
    rcases h3 with q | q
    · rw [e] at q
      exact (seq_inj q).2.symm
    · rw [e] at q
      exact absurd (Value.type.inj (seq_inj q).1) (by decide)
  subst hu
  refine ⟨h2, ?_⟩
  cases hk : K.lookup a with
  | none => exact .inl (.inr ⟨_, by rw [argH_at ha hk e, hoOf_lst]⟩)
  | some o =>
    have e2 := KX a o hk
    rw [e] at e2
    obtain rfl := Option.some.inj e2
    exact .inr ⟨_, us.toArray, _, hk, rfl, rfl, rfl, by rw [List.size_toArray]; exact h1, by simpa using vals_toV h2⟩
theorem argT (KX : K.In h) (ar : ∀ a ∈ A, ArgOb h A a) {a : Addr} {vs : List Value} (ha : a ∈ A) (e : h.get? a = some { cls := .type "tuple", data := .seq vs.toArray }) : (∀ u ∈ vs, OkU A u) ∧ SqT K (argH K h A) a (vs.map toV) := by
  obtain ⟨us, h1, h2, h3⟩ := ar a ha
  have hu : us = vs := by
    rcases h3 with q | q
    · rw [e] at q
      exact absurd (Value.type.inj (seq_inj q).1) (by decide)
    · rw [e] at q
      exact (seq_inj q).2.symm
  subst hu
  refine ⟨h2, ?_⟩
  cases hk : K.lookup a with
  | none => exact .inl (.inr ⟨_, by rw [argH_at ha hk e, hoOf_tup]⟩)
  | some o =>
    have e2 := KX a o hk
    rw [e] at e2
    obtain rfl := Option.some.inj e2
    exact .inr ⟨_, us.toArray, _, hk, rfl, rfl, by rw [List.size_toArray]; exact h1, by simpa using vals_toV h2⟩
mutual
theorem dw_one {Pm : Params} (KX : K.In h) (ar : ∀ a ∈ A, ArgOb h A a) : ∀ (d : WData) (v : Value), Well Pm h v d → plW d = true → OkU A v → Dw K (argH K h A) (toV v) d
  | .none, _, x, _, _ => by
    cases x
    exact .non
  | .bool b, _, x, _, _ => by
    cases x
    exact .bl b
  | .int i, _, x, _, _ => by
    cases x
    exact .int i
  | .str s, _, x, _, _ => by
    cases x
    exact .str s
  | .bytes b, _, x, _, _ => by
    cases x
    have z := Dw.byt (K := K) (H := argH K h A) b.toArray
    exact z
  | .list ds, _, x, p, hu => by
    obtain ⟨a, vs, rfl, ho, hall⟩ := well_list x
    obtain ⟨h2, hs⟩ := argL KX ar hu ho
    exact .lst hs (dw_all KX ar ds _ hall p h2)
  | .tuple ds, _, x, p, hu => by
    obtain ⟨a, vs, rfl, ho, hall⟩ := well_tuple x
    obtain ⟨h2, hs⟩ := argT KX ar hu ho
    exact .tup hs (dw_all KX ar ds _ hall p h2)
  | .float _, _, _, p, _ => Bool.noConfusion (show false = true from p)
  | .dict _, _, _, p, _ => Bool.noConfusion (show false = true from p)
  | .bytearray _, _, _, p, _ => Bool.noConfusion (show false = true from p)
  | .set _, _, _, p, _ => Bool.noConfusion (show false = true from p)
  | .frozenset _, _, _, p, _ => Bool.noConfusion (show false = true from p)
  | .obj _ _, _, _, p, _ => Bool.noConfusion (show false = true from p)
theorem dw_all {Pm : Params} (KX : K.In h) (ar : ∀ a ∈ A, ArgOb h A a) : ∀ (ds : List WData) (vs : List Value), WellAll Pm h vs ds → plWs ds = true → (∀ u ∈ vs, OkU A u) → DwAll K (argH K h A) (vs.map toV) ds
  | [], _, x, _, _ => by
    cases x
    exact .nil
  | d :: ds, _, x, p, hu => by
    obtain ⟨v, vs, rfl, x1, x2⟩ := well_cons x
    have q : plW d = true ∧ plWs ds = true := Bool.and_eq_true_iff.mp p
    exact .cons (dw_one KX ar d v x1 q.1 (hu _ (List.mem_cons_self ..))) (dw_all KX ar ds vs x2 q.2 fun u m => hu u (List.mem_cons_of_mem _ m))
end
end
/-! ### the call -/
theorem spec_call {P : Program} {w : World} {K : PySem.W.Frag} {mg mb : Str → Option Value} {CX : CXT} {k : Nat} {fa : Addr} {fd : FuncData} {ps : List Str} {sp : Sp} {s₁ : Shared} {vals : List Value} {ds : List WData} {R : PySem.W.WRecords} {cl : Str → Option Addr} {d0 : WData}
    (KX : K.In s₁.heap) (hns : s₁.heap.Ns mainGlobals mg) (hb : s₁.heap.Ns builtinsNs mb) (hbb : ∀ x : Str, x ≠ "__name__" → mb x = bootBuiltins x) (hlim : s₁.heap.NoLimit) (hg : s₁.gens = #[])
    (hwl : WellAll w.params s₁.heap vals ds) (hpl : plWs ds = true) (hwt : ∀ d ∈ ds, d.weight ≤ 1048576) (hr : Room k callerA)
    (F : ∀ base : Heap, K.In base → base.Ns mainGlobals mg → FnOk P w K mg base CX k fa fd ps sp) (hbind : ∀ (s : Shared) (us : List Value), us.length = ps.length → BindsTo s fd ⟨us, []⟩ (ps.zip us)) (hlen : ds.length = ps.length)
    (hsp : ∀ (H : Hp) (xs : List V), OnlyF H → DwAll K H xs ds → sp xs H (fun v H' => Dw K H' v d0) fun _ _ _ => False)
    (hCX : ∀ H e s', CX [] H s₁ (fun _ _ _ => False) e s' → False) :
    codeAny (model P w) callerA (.call (.ref fa) ⟨vals, []⟩) (fun r s' => ∃ u as, r = .ok (.ret u) ∧ ReadsW R cl s'.heap u d0 as ∧ OldK s₁.heap s'.heap ∧ s'.os = s₁.os ∧ AllBare s'.gens) s₁ := by
  obtain ⟨A, ho, ar⟩ := area_all ds vals hwl hpl hwt
  have hO : OnlyF (argH K s₁.heap A) := argH_only ar
  have hok : HOk P w (argH K s₁.heap A) s₁.heap := argH_ok ar
  have hS := dw_all KX ar ds vals hwl hpl ho
  have hV := vals_toV ho
  have hK : ∀ b u, argH K s₁.heap A b = some u → K.lookup b = none := fun b u q => (argH_is ar q).1
  have noA : ∀ {b : Addr} {o : Obj} {es : Array DictEntry} {ep : Nat}, s₁.heap.get? b = some o → o.data = .dict es ep → argH K s₁.heap A b = none := fun {b o es ep} e d => by
    cases q : argH K s₁.heap A b with
    | none => rfl
    | some u =>
      obtain ⟨_, vs, _, _, ⟨e2, _⟩ | ⟨e2, _⟩⟩ := argH_is ar q
      · rw [e2] at e
        cases e
        have d' : Data.seq vs.toArray _ = Data.dict es ep := d
        cases d'
      · rw [e2] at e
        cases e
        have d' : Data.seq vs.toArray _ = Data.dict es ep := d
        cases d'
  generalize argH K s₁.heap A = H at hO hok hS hK noA
  have base_of : ∀ {b : Addr} {o : Obj}, s₁.heap.get? b = some o → H b = none → (hidT s₁.heap H).get? b = some o := fun e n => hidT_get e n
  have nsK : ∀ {b : Addr} {m : Str → Option Value}, s₁.heap.Ns b m → (hidT s₁.heap H).Ns b m := fun {b m} ⟨o, es, ep, e, d, r⟩ => ⟨o, es, ep, base_of e (noA e d), d, r⟩
  have nK : ∀ b o, K.lookup b = some o → H b = none := fun b o e => by
    cases q : H b with
    | none => rfl
    | some u =>
      rw [hK b u q] at e
      cases e
  have hKb : K.In (hidT s₁.heap H) := fun b o e => base_of (KX b o e) (nK b o e)
  have hM : Mod K mg (hidT s₁.heap H) := ⟨hKb, nsK hns, ⟨mb, nsK hb, hbb⟩, let ⟨mc, h1, h2⟩ := hlim; ⟨mc, nsK h1, h2⟩⟩
  have e0 : Env0 P w K mg (hidT s₁.heap H) callerA [] s₁ H := ⟨rfl, hM, fun b o e => of_hidT e, Nat.le_of_eq (hidT_size _ _), trivial, fun b hb => absurd (show b ∈ ([] : List Addr) from hb) (by simp), hok, .of_eq hg⟩
  have hl : vals.length = ps.length := by rw [wellAll_len hwl]; exact hlen
  refine codeAny_mono ((F _ hKb (nsK hns)).run callerA [] s₁ H ⟨vals, []⟩ vals (vals.map toV) _ _ hr e0 (hbind s₁ vals hl) hV (hsp H _ hO hS)) fun r s' x => ?_
  cases r with
  | error e => exact (hCX H e s' x).elim
  | ok fl =>
    cases fl with
    | next => exact False.elim x
    | brk => exact False.elim x
    | cont => exact False.elim x
    | ret u =>
      obtain ⟨v, H', os, bare, un, hok', r', q⟩ := x
      have kept : ∀ b o, s₁.heap.get? b = some o → s'.heap.get? b = some o := fun b o e => by
        cases q2 : H b with
        | none => exact un.keep b o e q2 (by intro z; exact absurd (show b ∈ ([] : List Addr) from z) (by simp)) (by simp)
        | some u2 =>
          rcases hO b with z | ⟨ob, u3, z⟩
          · rw [q2] at z
            cases z
          · have z2 := un.frzs b ob _ z
            obtain ⟨e1, _⟩ := hok b _ z
            obtain ⟨e2, _⟩ := hok' b _ z2
            rw [e] at e1
            cases e1
            exact e2
      have KX' : K.In s'.heap := fun b o e => kept b o (KX b o e)
      obtain ⟨as, hrd⟩ := Dw.reads (R := R) (cl := cl) hok' KX' d0 v u q r'
      exact ⟨u, as, rfl, hrd, OldK.of_keep kept, os, bare⟩
/-! ### the row -/
theorem layable_weight {ds : List WData} (h : WData.layableAll ds = true) : ∀ d ∈ ds, d.weight ≤ 1048576 := fun d hd =>
  (PySem.W.layableW_iff.mp (List.all_eq_true.mp h d hd)).2.2
theorem encAll_len : ∀ (cs : List Codec) (a : Codec.denoteAll cs), (Codec.encAll cs a).length = cs.length
  | [], _ => rfl
  | c :: cs, a => by
    show (Codec.encAll cs a.2).length + 1 = cs.length + 1
    rw [encAll_len cs a.2]
/-- the goal that k_headS leaves (case hc), from the promise of the row's def: whatever the arguments that the codecs let and the row asks for, the def gives what stands for enc (f ..) -/
theorem walk_spec {r : OpenSpec} {k : Nat} {q : Program} {loose : List Str} {XP : (Str → Option Value) → Heap → Prop} {YP : World → Heap → Prop} {d : DefRec} {K : Params → PySem.W.Frag} {CX : World → CXT} {ps : List Str} {sp : World → Sp}
    (hwell : r.wellSaid = true) (hdf : d.params.defaults = []) (hlen : r.args.length = ps.length) (hr : Room k callerA)
    (hY : ∀ (w : World) (h : Heap), YP w h → (K w.params).In h)
    (F : ∀ (w : World) (mg : Str → Option Value) (fa : Addr) (h : Heap), YP w h → (K w.params).In h → h.Ns mainGlobals mg → mg d.name = some (.ref fa) →
      ∃ fd : FuncData, (∀ (s : Shared) (us : List Value), us.length = ps.length → BindsTo s fd ⟨us, []⟩ (ps.zip us)) ∧
        ∀ base : Heap, (K w.params).In base → base.Ns mainGlobals mg → FnOk r.prog w (K w.params) mg base (CX w) k fa fd ps (sp w))
    (hsp : ∀ (w : World) (H : Hp) (xs : List V) (a : Codec.denoteAll r.args), OnlyF H → Codec.withinAll r.args a = true → Codec.app r.args r.asked a = true → DwAll (K w.params) H xs (Codec.encAll r.args a) →
      sp w xs H (fun v H' => Dw (K w.params) H' v (r.ret.enc (Codec.app r.args r.f a))) fun _ _ _ => False)
    (hCX : ∀ (w : World) (H : Hp) (s : Shared) (e : Value) (s' : Shared), CX w [] H s (fun _ _ _ => False) e s' → False) :
    PySem.W.WalkOS q loose XP YP r d [] (fun f vs => PySem.call f vs) := by
  intro w s_0 s₁ mg mb G Y fa o pm cd doc dV kV ho hd hcd hD hmg hg args vals as hpre hlay hrd hwl hlo
  obtain ⟨a, e1, e2⟩ := PySem.W.os_pre_some hpre
  obtain ⟨e3, hwi⟩ := Codec.encAll_of_decAll r.args args a e1
  subst e3
  have KX := hY w _ Y
  obtain ⟨fd, hb, hF⟩ := F w mg fa _ Y KX G.T.g hmg
  refine PySem.W.enter_call (codeAny_mono (spec_call (R := []) (cl := classAt s_0.heap) (d0 := r.ret.enc (Codec.app r.args r.f a)) KX G.T.g G.T.b G.T.builtins G.T.nolimit hg hwl (pl_encAll _ _) (layable_weight hlay) hr hF hb (by rw [encAll_len]; exact hlen)
    (fun H xs hO hS => hsp w H xs a hO hwi e2 hS) fun H e s' => hCX w H s₁ e s') fun r' s' hq => ?_)
  obtain ⟨u, as', rfl, h1, h2, h3, h4⟩ := hq
  exact ⟨.inl ⟨u, _, as', rfl, fun _ => rfl, h1, (OpenSpec.post_iff hwell hwi _ _).mpr rfl, fun z => Bool.noConfusion (show false = true from z)⟩, h2, h3, h4⟩
/-- the same where the promise hangs on the written part alone -/
theorem walk_specK {r : OpenSpec} {k : Nat} {q : Program} {loose : List Str} {XP : (Str → Option Value) → Heap → Prop} {YP : World → Heap → Prop} {d : DefRec} {K : Params → PySem.W.Frag} {CX : CXT} {ps : List Str} {sp : PySem.W.Frag → Sp}
    (hwell : r.wellSaid = true) (hdf : d.params.defaults = []) (hlen : r.args.length = ps.length) (hr : Room k callerA)
    (hY : ∀ (w : World) (h : Heap), YP w h → (K w.params).In h)
    (F : ∀ (w : World) (mg : Str → Option Value) (fa : Addr) (h : Heap), YP w h → (K w.params).In h → h.Ns mainGlobals mg → mg d.name = some (.ref fa) →
      ∃ fd : FuncData, (∀ (s : Shared) (us : List Value), us.length = ps.length → BindsTo s fd ⟨us, []⟩ (ps.zip us)) ∧
        ∀ base : Heap, (K w.params).In base → base.Ns mainGlobals mg → FnOk r.prog w (K w.params) mg base CX k fa fd ps (sp (K w.params)))
    (hsp : ∀ (K : PySem.W.Frag) (H : Hp) (xs : List V) (a : Codec.denoteAll r.args), OnlyF H → Codec.withinAll r.args a = true → Codec.app r.args r.asked a = true → DwAll K H xs (Codec.encAll r.args a) →
      sp K xs H (fun v H' => Dw K H' v (r.ret.enc (Codec.app r.args r.f a))) fun _ _ _ => False)
    (hCX : ∀ (H : Hp) (s : Shared) (e : Value) (s' : Shared), CX [] H s (fun _ _ _ => False) e s' → False) :
    PySem.W.WalkOS q loose XP YP r d [] (fun f vs => PySem.call f vs) :=
  walk_spec (K := K) (CX := fun _ => CX) (sp := fun w => sp (K w.params)) hwell hdf hlen hr hY F (fun w H xs a h1 h2 h3 h4 => hsp (K w.params) H xs a h1 h2 h3 h4) fun _ H s e s' => hCX H s e s'
end L2
-- rests on (row put in by the clerk, for the bench that shows a file only what it spells): KE.SpHead KE.OsShapes
end
section
set_option Elab.async false
set_option maxRecDepth 100000
namespace Os
open PfPk PfHp PfbSp

/-! ### pigeonhole -/
theorem nodup_le {α : Type} [BEq α] [LawfulBEq α] : ∀ (l m : List α), l.Nodup → (∀ x ∈ l, x ∈ m) → l.length ≤ m.length
  | [], _, _, _ => Nat.zero_le _
  | a :: l, m, hn, hs => by
    have h1 : a ∈ m := hs a (List.mem_cons_self ..)
    have hn' := List.nodup_cons.mp hn
    have h2 := nodup_le l (m.erase a) hn'.2 (fun x hx => by
      have hxa : x ≠ a := fun q => hn'.1 (q ▸ hx)
      exact (List.mem_erase_of_ne hxa).mpr (hs x (List.mem_cons_of_mem _ hx)))
    have h3 := List.length_erase_of_mem h1
    have h4 : 0 < m.length := List.length_pos_of_mem h1
    rw [List.length_cons]
    omega
theorem range_nodup (n : Nat) : (List.range n).Nodup := List.nodup_range
/-- n numbers, all below n, no two alike: every one is there -/
theorem all_there {n : Nat} {l : List Nat} (hl : l.length = n) (hn : l.Nodup) (hb : ∀ x ∈ l, x < n) : ∀ c, c < n → c ∈ l := fun c hc => by
  by_cases h : c ∈ l
  · exact h
  · exfalso
    have h2 := nodup_le (c :: l) (List.range n) (List.nodup_cons.mpr ⟨h, hn⟩) (fun x hx => by
      rcases List.mem_cons.mp hx with rfl | hx
      · exact List.mem_range.mpr hc
      · exact List.mem_range.mpr (hb x hx))
    rw [List.length_cons, List.length_range] at h2
    omega
theorem there_nodup : ∀ (n : Nat) (l : List Nat), l.length = n → (∀ c, c < n → c ∈ l) → l.Nodup ∧ ∀ x ∈ l, x < n := fun n l hl hc => by
  have key : ∀ (l : List Nat) (m : List Nat), m.Nodup → (∀ x ∈ m, x ∈ l) → l.length ≤ m.length → l.Nodup := by
    intro l
    induction l with
    | nil => intro m _ _ _; exact List.nodup_nil
    | cons a l ih =>
      intro m hm hs hle
      have ham : a ∈ m := by
        by_cases h : a ∈ m
        · exact h
        · exfalso
          have := nodup_le m l hm (fun x hx => by
            rcases List.mem_cons.mp (hs x hx) with rfl | hx2
            · exact absurd hx h
            · exact hx2)
          rw [List.length_cons] at hle
          omega
      have hme : (m.erase a).Nodup := hm.erase a
      have hlen := List.length_erase_of_mem ham
      have hpos : 0 < m.length := List.length_pos_of_mem ham
      have h1 : ∀ x ∈ m.erase a, x ∈ l := fun x hx => by
        have hxm := List.mem_of_mem_erase hx
        rcases List.mem_cons.mp (hs x hxm) with rfl | hx2
        · exact absurd hx (List.Nodup.not_mem_erase hm)
        · exact hx2
      rw [List.length_cons] at hle
      refine List.nodup_cons.mpr ⟨fun hal => ?_, ih (m.erase a) hme h1 (by omega)⟩
      have := nodup_le m l hm (fun x hx => by
        rcases List.mem_cons.mp (hs x hx) with rfl | hx2
        · exact hal
        · exact hx2)
      omega
  have hN : l.Nodup := key l (List.range n) (range_nodup n) (fun x hx => hc x (List.mem_range.mp hx)) (by rw [List.length_range]; omega)
  refine ⟨hN, fun x hx => ?_⟩
  by_cases h : x < n
  · exact h
  · exfalso
    have h2 := nodup_le (x :: List.range n) l (List.nodup_cons.mpr ⟨fun q => h (List.mem_range.mp q), range_nodup n⟩) (fun y hy => by
      rcases List.mem_cons.mp hy with rfl | hy
      · exact hx
      · exact hc y (List.mem_range.mp hy))
    rw [List.length_cons, List.length_range] at h2
    omega
/-- A row: each square once. -/
structure Row (n : Nat) (r : List Nat) : Prop where
  len : r.length = n
  nd : r.Nodup
  lt : ∀ x ∈ r, x < n
theorem Row.mem {n : Nat} {r : List Nat} (R : Row n r) : ∀ c, c < n → c ∈ r := all_there R.len R.nd R.lt
theorem isRow_iff (n : Nat) (r : List Nat) : isRow n r = true ↔ Row n r := by
  unfold isRow
  rw [Bool.and_eq_true, beq_iff_eq, List.all_eq_true]
  constructor
  · rintro ⟨h1, h2⟩
    have h3 := there_nodup n r h1 (fun c hc => by
      have := h2 c (List.mem_range.mpr hc)
      exact List.contains_iff_mem.mp this)
    exact ⟨h1, h3.1, h3.2⟩
  · intro R
    exact ⟨R.len, fun c hc => List.contains_iff_mem.mpr (R.mem c (List.mem_range.mp hc))⟩

/-! ### places -/
theorem place_lt {n : Nat} {r : List Nat} (R : Row n r) {c : Nat} (hc : c < n) : place r c < n := by
  unfold place
  have h := List.findIdx_lt_length_of_exists (p := fun d => d == c) (xs := r) ⟨c, R.mem c hc, beq_self_eq_true c⟩
  rw [R.len] at h
  exact h
theorem place_at {n : Nat} {r : List Nat} (R : Row n r) {c : Nat} (hc : c < n) : r[place r c]? = some c := by
  unfold place
  have h := List.findIdx_lt_length_of_exists (p := fun d => d == c) (xs := r) ⟨c, R.mem c hc, beq_self_eq_true c⟩
  have h2 := List.findIdx_getElem (w := h)
  rw [List.getElem?_eq_getElem h, eq_of_beq h2]
theorem place_of {n : Nat} {r : List Nat} (R : Row n r) {i c : Nat} (h : r[i]? = some c) : place r c = i := by
  have hc : c < n := R.lt c (List.mem_of_getElem? h)
  have h2 := place_at R hc
  obtain ⟨a1, e1⟩ := List.getElem?_eq_some_iff.mp h
  obtain ⟨a2, e2⟩ := List.getElem?_eq_some_iff.mp h2
  exact ((List.getElem_inj R.nd).mp (e1.trans e2.symm)).symm
theorem place_inj {n : Nat} {r : List Nat} (R : Row n r) {c d : Nat} (hc : c < n) (hd : d < n) (h : place r c = place r d) : c = d := by
  have h1 := place_at R hc
  rw [h, place_at R hd] at h1
  exact (Option.some.inj h1).symm
end Os
end
section
set_option Elab.async false
set_option maxRecDepth 100000
namespace Os
open PfPk PfHp PfbSp

/-! ### sheets -/
structure Sheet (w h : Nat) : Prop where
  w1 : 1 ≤ w
  w6 : w ≤ 6
  h1 : 1 ≤ h
  h6 : h ≤ 6
  n9 : w * h ≤ 9
theorem sheet_iff (w h : Nat) : sheet w h = true ↔ Sheet w h := by
  unfold sheet EDGE MOST
  simp only [Bool.and_eq_true, decide_eq_true_eq]
  exact ⟨fun ⟨a, b, c, d, e⟩ => ⟨a, b, c, d, e⟩, fun S => ⟨S.w1, S.w6, S.h1, S.h6, S.n9⟩⟩
theorem Sheet.b {w h : Nat} (S : Sheet w h) : sheet w h = true := (sheet_iff w h).mpr S
/-- what holds of the seventeen sheets, looked at one by one -/
theorem by_sheets {P : Nat → Nat → Prop} [∀ w h, Decidable (P w h)] (hd : (List.range 7).all (fun w => (List.range 7).all fun h => !sheet w h || decide (P w h)) = true) {w h : Nat} (S : Sheet w h) : P w h := by
  have h1 := List.all_eq_true.mp hd w (List.mem_range.mpr (by have := S.w6; omega))
  have h2 := List.all_eq_true.mp h1 h (List.mem_range.mpr (by have := S.h6; omega))
  rw [S.b] at h2
  simpa using h2

/-! ### what a square turns to at a side -/
/-- across: side 0 right, 1 left -/
def tX (w side c : Nat) : Option Nat := if c % w % 2 = side then (if c % w + 1 < w then some (w * (c / w) + (c % w + 1)) else none) else if c % w = 0 then none else some (w * (c / w) + (c % w - 1))
/-- upright: side 0 up, 1 down -/
def tY (w h side c : Nat) : Option Nat := if c / w % 2 = side then (if c / w + 1 < h then some (w * (c / w + 1) + c % w) else none) else if c / w = 0 then none else some (w * (c / w - 1) + c % w)
def tS (w h : Nat) : Nat → Nat → Option Nat
  | 0 => tX w 0
  | 1 => tX w 1
  | 2 => tY w h 0
  | _ => tY w h 1
theorem at_heap {w h : Nat} {r : List Nat} {c : Nat} (hc : c < w * h) : (heap w h r).at_ c = ⟨0, 0, c % w % 2 == 1, c / w % 2 == 1, place r c⟩ := by
  unfold Packet.at_ heap
  rw [List.getD_eq_getElem?_getD, List.getElem?_map, List.getElem?_range hc]
  rfl
/-- .. the square joined there, of flags alone -/
def acr (w h s c : Nat) : Option Nat :=
  let fx := c % w % 2 == 1
  let fy := c / w % 2 == 1
  let rt : Option Nat := if c % w + 1 < w then some (c + 1) else none
  let lf : Option Nat := if c % w = 0 then none else some (c - 1)
  let up : Option Nat := if c + w < w * h then some (c + w) else none
  let dn : Option Nat := if c < w then none else some (c - w)
  if s = 0 then (if fx = true then lf else rt) else if s = 1 then (if fx = true then rt else lf) else if s = 2 then (if fy = true then dn else up) else if fy = true then up else dn
theorem across_heap {w h : Nat} {r : List Nat} {c : Nat} (hc : c < w * h) (s : Nat) : (heap w h r).across s c = acr w h s c := by
  unfold Packet.across acr
  rw [at_heap hc]
  rfl
theorem acr_tS {w h : Nat} (S : Sheet w h) : ∀ c, c < w * h → ∀ s, s < 4 → acr w h s c = tS w h s c :=
  by_sheets (P := fun w h => ∀ c, c < w * h → ∀ s, s < 4 → acr w h s c = tS w h s c) (by decide +kernel) S
theorem tS_lt0 {w h : Nat} (S : Sheet w h) : ∀ c, c < w * h → ∀ s, s < 4 → (tS w h s c).getD 0 < w * h :=
  by_sheets (P := fun w h => ∀ c, c < w * h → ∀ s, s < 4 → (tS w h s c).getD 0 < w * h) (by decide +kernel) S
theorem tS_lt {w h : Nat} (S : Sheet w h) : ∀ c, c < w * h → ∀ s, s < 4 → ∀ d, d ∈ tS w h s c → d < w * h := by
  intro c hc s hs d hd
  have h2 := tS_lt0 S c hc s hs
  rw [Option.mem_def] at hd
  rw [hd] at h2
  exact h2
/-- no square turns to itself -/
theorem tS_ne {w h : Nat} (S : Sheet w h) : ∀ c, c < w * h → ∀ s, s < 4 → tS w h s c ≠ some c :=
  by_sheets (P := fun w h => ∀ c, c < w * h → ∀ s, s < 4 → tS w h s c ≠ some c) (by decide +kernel) S

/-! ### faults -/
def goes2 (t : Nat → Option Nat) (z : Nat → Nat) (c d : Nat) : Bool := match t c, t d with
  | some a, some b => d != a && (between (z c) (z a) (z d) != between (z c) (z a) (z b))
  | _, _ => false
theorem turns_heap {w h : Nat} (S : Sheet w h) {r : List Nat} {c s : Nat} (hc : c < w * h) (hs : s < 4) : (heap w h r).turns s c = tS w h s c ∧ (heap w h r).goes s c = none := by
  unfold Packet.turns Packet.goes
  rw [across_heap hc, acr_tS S c hc s hs]
  have hl := tS_lt S c hc s hs
  cases e : tS w h s c with
  | none => exact ⟨rfl, rfl⟩
  | some d =>
    have hd : d < w * h := hl d (by rw [e]; rfl)
    simp only [Option.bind_some, at_heap hc, at_heap hd, samePlace]
    exact ⟨rfl, rfl⟩
theorem pass_heap {w h : Nat} (S : Sheet w h) {r : List Nat} {c d s : Nat} (hc : c < w * h) (hd : d < w * h) (hs : s < 4) : (heap w h r).pass s c d = !goes2 (tS w h s) (place r) c d := by
  unfold Packet.pass goes2
  rw [(turns_heap S hc hs).1, (turns_heap S hd hs).1, (turns_heap S hc hs).2, (turns_heap S hd hs).2]
  have lc := tS_lt S c hc s hs
  have ld := tS_lt S d hd s hs
  cases e1 : tS w h s c with
  | none => cases e2 : tS w h s d <;> rfl
  | some a =>
    cases e2 : tS w h s d with
    | none => rfl
    | some b =>
      have ha : a < w * h := lc a (by rw [e1]; rfl)
      have hb : b < w * h := ld b (by rw [e2]; rfl)
      simp only [at_heap hc, at_heap hd, at_heap ha, at_heap hb, bne, Bool.not_and, Bool.not_not]
def atF (w h : Nat) (r : List Nat) (c : Nat) : Bool := (List.range (w * h)).any fun d => decide (c < d) && [0, 1, 2, 3].any fun s => goes2 (tS w h s) (place r) c d
theorem all_not {α : Type} (l : List α) (p : α → Bool) : (!l.all p) = l.any fun x => !p x := by
  induction l with
  | nil => rfl
  | cons a l ih => simp only [List.all_cons, List.any_cons, Bool.not_and, ih]
theorem any_congr' {α : Type} {l : List α} {p q : α → Bool} (h : ∀ x ∈ l, p x = q x) : l.any p = l.any q := by
  induction l with
  | nil => rfl
  | cons a l ih =>
    simp only [List.any_cons]
    rw [h a (List.mem_cons_self ..), ih fun x hx => h x (List.mem_cons_of_mem _ hx)]
theorem uncrossed_heap {w h : Nat} (S : Sheet w h) {r : List Nat} {c : Nat} (hc : c < w * h) : (!(heap w h r).uncrossed c) = atF w h r c := by
  unfold Packet.uncrossed atF
  rw [all_not]
  refine any_congr' fun d hd => ?_
  have hd' : d < w * h := List.mem_range.mp hd
  rw [at_heap hc, at_heap hd']
  have e : ([0, 1, 2, 3].all fun s => (heap w h r).pass s c d) = !([0, 1, 2, 3].any fun s => goes2 (tS w h s) (place r) c d) := by
    simp only [List.all_cons, List.all_nil, List.any_cons, List.any_nil, pass_heap S hc hd' (show 0 < 4 by decide), pass_heap S hc hd' (show 1 < 4 by decide), pass_heap S hc hd' (show 2 < 4 by decide), pass_heap S hc hd' (show 3 < 4 by decide), Bool.not_or, Bool.not_false]
  rw [e]
  simp only [samePlace, beq_self_eq_true, Bool.and_self, Bool.not_true, Bool.false_or, Bool.not_or, Bool.not_not]
  congr 1
  by_cases q : d ≤ c
  · have : ¬ c < d := by omega
    simp [q, this]
  · have : c < d := by omega
    simp [q, this]

/-! ### joined, layered -/
def jnd (w h c : Nat) : Bool :=
  let fx := fun (c : Nat) => c % w % 2 == 1
  let fy := fun (c : Nat) => c / w % 2 == 1
  (if c % w + 1 < w then (fx (c + 1) != fx c && fy (c + 1) == fy c) else true) && (if c + w < w * h then (fy (c + w) != fy c && fx (c + w) == fx c) else true)
theorem jnd_all {w h : Nat} (S : Sheet w h) : ∀ c, c < w * h → jnd w h c = true :=
  by_sheets (P := fun w h => ∀ c, c < w * h → jnd w h c = true) (by decide +kernel) S
theorem rt_lt {w h : Nat} (S : Sheet w h) : ∀ c, c < w * h → c % w + 1 < w → c + 1 < w * h :=
  by_sheets (P := fun w h => ∀ c, c < w * h → c % w + 1 < w → c + 1 < w * h) (by decide +kernel) S
theorem joined_heap {w h : Nat} (S : Sheet w h) {r : List Nat} {c : Nat} (hc : c < w * h) : (heap w h r).joined c = true := by
  have hj := jnd_all S c hc
  unfold jnd at hj
  rw [Bool.and_eq_true] at hj
  obtain ⟨h1, h2⟩ := hj
  unfold Packet.joined
  rw [Bool.and_eq_true]
  constructor
  · show Option.all _ (if c % w + 1 < w then some (c + 1) else none) = true
    by_cases q : c % w + 1 < w
    · rw [if_pos q] at h1 ⊢
      rw [Option.all_some, at_heap hc, at_heap (rt_lt S c hc q)]
      unfold foldRight samePlace
      simp only [beq_self_eq_true, Bool.and_self, Bool.true_and]
      rw [h1, Bool.or_true]
    · rw [if_neg q]
      rfl
  · show Option.all _ (if c + w < w * h then some (c + w) else none) = true
    by_cases q : c + w < w * h
    · rw [if_pos q] at h2 ⊢
      rw [Option.all_some, at_heap hc, at_heap q]
      unfold foldUp samePlace
      simp only [beq_self_eq_true, Bool.and_self, Bool.true_and]
      rw [h2, Bool.or_true]
    · rw [if_neg q]
      rfl
/-- squares put in by their layers lie in order -/
theorem putZ_perm (P : Packet) (c : Nat) : ∀ l : List Nat, (putZ P c l).Perm (c :: l)
  | [] => List.Perm.refl _
  | d :: l => by
    unfold putZ
    split
    · exact List.Perm.refl _
    · exact ((putZ_perm P c l).cons d).trans (List.Perm.swap ..)
theorem putZ_sorted (P : Packet) (c : Nat) : ∀ l : List Nat, l.Pairwise (fun a b => (P.at_ a).z ≤ (P.at_ b).z) → (putZ P c l).Pairwise (fun a b => (P.at_ a).z ≤ (P.at_ b).z)
  | [], _ => List.pairwise_singleton ..
  | d :: l, h => by
    unfold putZ
    have h' := List.pairwise_cons.mp h
    split
    · rename_i q
      refine List.pairwise_cons.mpr ⟨fun b hb => ?_, h⟩
      rcases List.mem_cons.mp hb with rfl | hb
      · omega
      · have := h'.1 b hb
        omega
    · rename_i q
      refine List.pairwise_cons.mpr ⟨fun b hb => ?_, putZ_sorted P c l h'.2⟩
      rcases List.mem_cons.mp ((putZ_perm P c l).mem_iff.mp hb) with rfl | hb
      · omega
      · exact h'.1 b hb
theorem stack_perm (P : Packet) : ∀ l : List Nat, (l.foldr (putZ P) []).Perm l
  | [] => List.Perm.refl _
  | a :: l => by
    rw [List.foldr_cons]
    exact (putZ_perm P a _).trans ((stack_perm P l).cons a)
theorem stack_sorted (P : Packet) : ∀ l : List Nat, (l.foldr (putZ P) []).Pairwise (fun a b => (P.at_ a).z ≤ (P.at_ b).z)
  | [] => List.Pairwise.nil
  | a :: l => by
    rw [List.foldr_cons]
    exact putZ_sorted P a _ (stack_sorted P l)
/-- two lists in order with the same numbers are one -/
theorem sorted_one : ∀ {l m : List Nat}, l.Perm m → l.Pairwise (· ≤ ·) → m.Pairwise (· ≤ ·) → l = m
  | [], m, p, _, _ => (List.nil_perm.mp p).symm
  | a :: l, [], p, _, _ => by simpa using p.length_eq
  | a :: l, b :: m, p, h1, h2 => by
    have q1 := List.pairwise_cons.mp h1
    have q2 := List.pairwise_cons.mp h2
    have e : a = b := by
      rcases List.mem_cons.mp (p.mem_iff.mp (List.mem_cons_self ..)) with e | ha
      · exact e
      · rcases List.mem_cons.mp (p.mem_iff.mpr (List.mem_cons_self ..)) with e | hb
        · exact e.symm
        · have := q1.1 b hb
          have := q2.1 a ha
          omega
    subst e
    rw [sorted_one ((List.perm_cons a).mp p) q1.2 q2.2]
/-- n numbers below n, no two alike, are those below n in some order -/
theorem row_perm {n : Nat} {l : List Nat} (R : Row n l) : l.Perm (List.range n) := by
  refine (List.perm_ext_iff_of_nodup R.nd (range_nodup n)).mpr fun x => ⟨fun hx => List.mem_range.mpr (R.lt x hx), fun hx => R.mem x (List.mem_range.mp hx)⟩
theorem places_row {n : Nat} {r : List Nat} (R : Row n r) : Row n ((List.range n).map (place r)) where
  len := by rw [List.length_map, List.length_range]
  nd := by
    refine (List.pairwise_map).mpr ((range_nodup n).imp_of_mem ?_)
    intro a b ha hb hab q
    exact hab (place_inj R (List.mem_range.mp ha) (List.mem_range.mp hb) q)
  lt := fun x hx => by
    obtain ⟨c, hc, rfl⟩ := List.mem_map.mp hx
    exact place_lt R (List.mem_range.mp hc)
theorem map_at {w h : Nat} {r l : List Nat} (hl : ∀ x ∈ l, x < w * h) : l.map (fun d => ((heap w h r).at_ d).z) = l.map (place r) :=
  List.map_congr_left fun d hd => by rw [at_heap (hl d hd)]
theorem layered_heap {w h : Nat} {r : List Nat} (R : Row (w * h) r) {c : Nat} (hc : c < w * h) : (heap w h r).layered c = true := by
  unfold Packet.layered
  have e0 : (heap w h r).size = w * h := rfl
  have e1 : ((List.range (heap w h r).size).filter fun d => ((heap w h r).at_ d).x == ((heap w h r).at_ c).x && ((heap w h r).at_ d).y == ((heap w h r).at_ c).y) = List.range (w * h) := by
    rw [e0]
    refine List.filter_eq_self.mpr fun d hd => ?_
    rw [at_heap hc, at_heap (List.mem_range.mp hd)]
    rfl
  unfold Packet.stack
  rw [e1]
  have p := stack_perm (heap w h r) (List.range (w * h))
  have s := stack_sorted (heap w h r) (List.range (w * h))
  have hl : ∀ x ∈ (List.range (w * h)).foldr (putZ (heap w h r)) [], x < w * h := fun x hx => List.mem_range.mp (p.mem_iff.mp hx)
  rw [beq_iff_eq, p.length_eq, List.length_range, map_at hl]
  refine sorted_one (((p.map (place r)).trans (row_perm (places_row R)))) ?_ ?_
  · refine (List.pairwise_map).mpr (s.imp_of_mem ?_)
    intro a b ha hb hab
    rw [at_heap (hl a ha), at_heap (hl b hb)] at hab
    exact hab
  · exact (List.pairwise_lt_range).imp Nat.le_of_lt
theorem find_none {α : Type} {l : List α} {p : α → Bool} (h : ∀ x ∈ l, p x = false) : l.find? p = none := by
  refine List.find?_eq_none.mpr fun x hx => ?_
  rw [h x hx]
  exact Bool.false_ne_true
theorem find_congr {α : Type} {l : List α} {p q : α → Bool} (h : ∀ x ∈ l, p x = q x) : l.find? p = l.find? q := by
  induction l with
  | nil => rfl
  | cons a l ih =>
    rw [List.find?_cons, List.find?_cons, h a (List.mem_cons_self ..), ih fun x hx => h x (List.mem_cons_of_mem _ hx)]
/-- what is wrong with a row -/
theorem faultOf_heap {w h : Nat} (S : Sheet w h) {r : List Nat} (R : Row (w * h) r) : faultOf w h r = (List.range (w * h)).find? (atF w h r) := by
  unfold faultOf Packet.fault
  have e0 : (heap w h r).size = w * h := rfl
  rw [e0, find_none (l := List.range (w * h)) (p := fun c => !(heap w h r).joined c) fun c hc => by rw [joined_heap S (List.mem_range.mp hc)]; rfl]
  dsimp only
  rw [find_none (l := List.range (w * h)) (p := fun c => !(heap w h r).layered c) fun c hc => by rw [layered_heap R (List.mem_range.mp hc)]; rfl]
  dsimp only
  rw [Option.map_map, find_congr (q := atF w h r) fun c hc => uncrossed_heap S (List.mem_range.mp hc)]
  show Option.map (fun c => c) _ = _
  rw [Option.map_id']

/-! ### creases -/
def front (w c : Nat) : Bool := c % w % 2 == c / w % 2
def crB (w : Nat) (z : Nat → Nat) (c d : Nat) : Nat := if front w c = true then (if z c < z d then 2 else 1) else if z d < z c then 2 else 1
def foldsOf (w h : Nat) : List (Nat × Nat) := ((List.range (w * h)).filter fun c => decide (c % w + 1 < w)).map (fun c => (c, c + 1)) ++ ((List.range (w * h)).filter fun c => decide (c + w < w * h)).map (fun c => (c, c + w))
theorem flag_eq (a b : Nat) (ha : a < 2) (hb : b < 2) : ((a == 1) == (b == 1)) = (a == b) := by
  have h1 : a = 0 ∨ a = 1 := by omega
  have h2 : b = 0 ∨ b = 1 := by omega
  rcases h1 with rfl | rfl <;> rcases h2 with rfl | rfl <;> rfl
theorem crease_heap {w h : Nat} {r : List Nat} {c d : Nat} (hc : c < w * h) (hd : d < w * h) : creaseOf ((heap w h r).at_ c) ((heap w h r).at_ d) = crB w (place r) c d := by
  rw [at_heap hc, at_heap hd]
  unfold creaseOf crB Lie.front front samePlace
  simp only [flag_eq _ _ (Nat.mod_lt _ (by decide : 0 < 2)) (Nat.mod_lt _ (by decide : 0 < 2))]
  simp
theorem filterMap_if {α β : Type} (p : α → Prop) [DecidablePred p] (f : α → β) (l : List α) : l.filterMap (fun c => if p c then some (f c) else none) = (l.filter fun c => decide (p c)).map f := by
  induction l with
  | nil => rfl
  | cons a l ih =>
    by_cases q : p a
    · rw [List.filterMap_cons, if_pos q, List.filter_cons, if_pos (by simpa using q), List.map_cons, ih]
    · rw [List.filterMap_cons, if_neg q, List.filter_cons, if_neg (by simpa using q), ih]
theorem filterMap_congr {α β : Type} {f g : α → Option β} {l : List α} (h : ∀ x ∈ l, f x = g x) : l.filterMap f = l.filterMap g := by
  induction l with
  | nil => rfl
  | cons a l ih => rw [List.filterMap_cons, List.filterMap_cons, h a (List.mem_cons_self ..), ih fun x hx => h x (List.mem_cons_of_mem _ hx)]
theorem creasesOf_heap {w h : Nat} (S : Sheet w h) (r : List Nat) : creasesOf w h r = (foldsOf w h).map fun p => crB w (place r) p.1 p.2 := by
  unfold creasesOf Packet.creases foldsOf
  have e0 : (heap w h r).size = w * h := rfl
  rw [e0, List.map_append, List.map_map, List.map_map]
  congr 1
  · rw [← filterMap_if]
    refine filterMap_congr fun c hc => ?_
    have hc' := List.mem_range.mp hc
    show Option.map _ (if c % w + 1 < w then some (c + 1) else none) = _
    by_cases q : c % w + 1 < w
    · rw [if_pos q, if_pos q, Option.map_some, crease_heap hc' (rt_lt S c hc' q)]
      rfl
    · rw [if_neg q, if_neg q]
      rfl
  · rw [← filterMap_if]
    refine filterMap_congr fun c hc => ?_
    have hc' := List.mem_range.mp hc
    show Option.map _ (if c + w < w * h then some (c + w) else none) = _
    by_cases q : c + w < w * h
    · rw [if_pos q, if_pos q, Option.map_some, crease_heap hc' q]
      rfl
    · rw [if_neg q, if_neg q]
      rfl
end Os
end
section
set_option Elab.async false
set_option maxRecDepth 100000
namespace Os
open PfPk PfHp PfbSp

/-! ### between, crosses -/
theorem btw_iff (a b x : Nat) : between a b x = true ↔ (a < x ∧ x < b) ∨ (b < x ∧ x < a) := by
  unfold between
  rw [Bool.and_eq_true, decide_eq_true_eq, decide_eq_true_eq]
  omega
theorem btw_comm (a b x : Nat) : between a b x = between b a x := by
  rw [Bool.eq_iff_iff, btw_iff, btw_iff]
  omega
theorem btw_congr {a b x a' b' x' : Nat} (h1 : a < x ↔ a' < x') (h2 : x < b ↔ x' < b') (h3 : b < x ↔ b' < x') (h4 : x < a ↔ x' < a') : between a b x = between a' b' x' := by
  rw [Bool.eq_iff_iff, btw_iff, btw_iff, h1, h2, h3, h4]
/-- chords that cross, cross one another -/
theorem cross_symm {a c b d : Nat} (h1 : a ≠ b) (h2 : a ≠ d) (h3 : c ≠ b) (h4 : c ≠ d) (h5 : a ≠ c) (h6 : b ≠ d) : (between a c b != between a c d) = (between b d a != between b d c) := by
  have e : ∀ x y : Bool, (x != y) = true ↔ ¬ (x = true ↔ y = true) := by decide
  rw [Bool.eq_iff_iff, e, e, btw_iff, btw_iff, btw_iff, btw_iff]
  omega

/-! ### a square put into a row -/
theorem mem_puts {c : Nat} : ∀ {l r : List Nat}, r ∈ puts c l ↔ ∃ xs ys, l = xs ++ ys ∧ r = xs ++ c :: ys
  | [], r => by
    unfold puts
    rw [List.mem_singleton]
    constructor
    · intro h
      exact ⟨[], [], rfl, h⟩
    · rintro ⟨xs, ys, h, h2⟩
      obtain ⟨rfl, rfl⟩ := List.append_eq_nil_iff.mp h.symm
      exact h2
  | d :: l, r => by
    unfold puts
    rw [List.mem_cons, List.mem_map]
    constructor
    · rintro (h | ⟨m, hm, h⟩)
      · exact ⟨[], d :: l, rfl, h⟩
      · obtain ⟨xs, ys, h1, h2⟩ := mem_puts.mp hm
        exact ⟨d :: xs, ys, by rw [h1]; rfl, by rw [← h, h2]; rfl⟩
    · rintro ⟨xs, ys, h1, h2⟩
      cases xs with
      | nil =>
        left
        rw [h2, List.nil_append, ← List.nil_append ys, ← h1]
      | cons x xs =>
        right
        rw [List.cons_append, List.cons.injEq] at h1
        refine ⟨xs ++ c :: ys, mem_puts.mpr ⟨xs, ys, h1.2, rfl⟩, ?_⟩
        rw [h2, h1.1]
        rfl
theorem place_ins {xs ys : List Nat} {c a : Nat} (ha : a ≠ c) : place (xs ++ c :: ys) a = if place (xs ++ ys) a < xs.length then place (xs ++ ys) a else place (xs ++ ys) a + 1 := by
  unfold place
  rw [List.findIdx_append, List.findIdx_append, List.findIdx_cons]
  have hc : (c == a) = false := by simpa using fun q => ha q.symm
  rw [hc]
  by_cases q : xs.findIdx (fun d => d == a) < xs.length
  · rw [if_pos q, if_pos q, if_pos q]
  · rw [if_neg q, if_neg q, if_neg (by omega)]
    simp only [cond_false]
    omega
theorem place_mono {xs ys : List Nat} {c a b : Nat} (ha : a ≠ c) (hb : b ≠ c) : place (xs ++ c :: ys) a < place (xs ++ c :: ys) b ↔ place (xs ++ ys) a < place (xs ++ ys) b := by
  rw [place_ins ha, place_ins hb]
  split <;> split <;> omega
theorem crosses_ins {xs ys : List Nat} {n a c b d : Nat} (ha : a ≠ n) (hc : c ≠ n) (hb : b ≠ n) (hd : d ≠ n) : crosses (xs ++ n :: ys) a c b d = crosses (xs ++ ys) a c b d := by
  unfold crosses
  dsimp only
  rw [btw_congr (place_mono ha hb) (place_mono hb hc) (place_mono hc hb) (place_mono hb ha), btw_congr (place_mono ha hd) (place_mono hd hc) (place_mono hc hd) (place_mono hd ha)]
theorem row_ins {n : Nat} {xs ys : List Nat} (R : Row n (xs ++ ys)) : Row (n + 1) (xs ++ n :: ys) where
  len := by
    have := R.len
    rw [List.length_append] at this
    rw [List.length_append, List.length_cons]
    omega
  nd := by
    have p : (xs ++ n :: ys).Perm (n :: (xs ++ ys)) := List.perm_middle
    refine p.nodup_iff.mpr (List.nodup_cons.mpr ⟨fun h => ?_, R.nd⟩)
    exact absurd (R.lt n h) (Nat.lt_irrefl n)
  lt := fun x hx => by
    have p : (xs ++ n :: ys).Perm (n :: (xs ++ ys)) := List.perm_middle
    rcases List.mem_cons.mp (p.mem_iff.mp hx) with rfl | h
    · exact Nat.lt_succ_self _
    · exact Nat.lt_succ_of_lt (R.lt x h)
theorem row_del {n : Nat} {xs ys : List Nat} (R : Row (n + 1) (xs ++ n :: ys)) : Row n (xs ++ ys) where
  len := by
    have := R.len
    rw [List.length_append, List.length_cons] at this
    rw [List.length_append]
    omega
  nd := by
    have p : (xs ++ n :: ys).Perm (n :: (xs ++ ys)) := List.perm_middle
    exact (List.nodup_cons.mp (p.nodup_iff.mp R.nd)).2
  lt := fun x hx => by
    have p : (xs ++ n :: ys).Perm (n :: (xs ++ ys)) := List.perm_middle
    have h1 := R.lt x (p.mem_iff.mpr (List.mem_cons_of_mem _ hx))
    have h2 := (List.nodup_cons.mp (p.nodup_iff.mp R.nd)).1
    have h3 : x ≠ n := fun q => h2 (q ▸ hx)
    omega

/-! ### all rows -/
theorem pairs_lt {w h : Nat} (S : Sheet w h) : ∀ s, s < 4 → ∀ p ∈ pairsAt w h s, p.1 < p.2 ∧ p.2 < w * h :=
  by_sheets (P := fun w h => ∀ s, s < 4 → ∀ p ∈ pairsAt w h s, p.1 < p.2 ∧ p.2 < w * h) (by decide +kernel) S
theorem clear_iff (w h n : Nat) (r : List Nat) : clear w h n r = true ↔ ∀ s, s < 4 → ∀ p ∈ pairsAt w h s, p.2 < n → ∀ q ∈ pairsAt w h s, q.2 < n → p.1 ≠ q.1 → crosses r p.1 p.2 q.1 q.2 = false := by
  unfold clear
  rw [List.all_eq_true]
  constructor
  · intro h1 s hs p hp hpn q hq hqn hne
    have h2 := h1 s (by simp; omega)
    dsimp only at h2
    rw [List.all_eq_true] at h2
    have h3 := h2 p (List.mem_filter.mpr ⟨hp, decide_eq_true hpn⟩)
    rw [List.all_eq_true] at h3
    have h4 := h3 q (List.mem_filter.mpr ⟨hq, decide_eq_true hqn⟩)
    rw [Bool.or_eq_true, beq_iff_eq] at h4
    rcases h4 with h4 | h4
    · exact absurd h4 hne
    · simpa using h4
  · intro h1 s hs
    have hs4 : s < 4 := by simp at hs; omega
    dsimp only
    rw [List.all_eq_true]
    intro p hp
    rw [List.all_eq_true]
    intro q hq
    obtain ⟨hp1, hp2⟩ := List.mem_filter.mp hp
    obtain ⟨hq1, hq2⟩ := List.mem_filter.mp hq
    rw [Bool.or_eq_true, beq_iff_eq]
    by_cases e : p.1 = q.1
    · exact .inl e
    · right
      rw [h1 s hs4 p hp1 (of_decide_eq_true hp2) q hq1 (of_decide_eq_true hq2) e]
      rfl
theorem mem_rowsTo {w h : Nat} (S : Sheet w h) : ∀ (n : Nat) (r : List Nat), r ∈ rowsTo w h n ↔ Row n r ∧ clear w h n r = true
  | 0, r => by
    unfold rowsTo
    rw [List.mem_singleton]
    constructor
    · rintro rfl
      refine ⟨⟨rfl, List.nodup_nil, fun x hx => by simp at hx⟩, (clear_iff w h 0 []).mpr fun s _ p _ hp => by omega⟩
    · rintro ⟨R, _⟩
      exact List.length_eq_zero_iff.mp R.len
  | n + 1, r => by
    unfold rowsTo
    rw [List.mem_flatMap]
    constructor
    · rintro ⟨l, hl, hr⟩
      obtain ⟨hr1, hr2⟩ := List.mem_filter.mp hr
      obtain ⟨xs, ys, rfl, rfl⟩ := mem_puts.mp hr1
      exact ⟨row_ins ((mem_rowsTo S n _).mp hl).1, hr2⟩
    · rintro ⟨R, hc⟩
      obtain ⟨xs, ys, rfl⟩ := List.append_of_mem (R.mem n (Nat.lt_succ_self n))
      refine ⟨xs ++ ys, (mem_rowsTo S n _).mpr ⟨row_del R, ?_⟩, List.mem_filter.mpr ⟨mem_puts.mpr ⟨xs, ys, rfl, rfl⟩, hc⟩⟩
      rw [clear_iff] at hc ⊢
      intro s hs p hp hpn q hq hqn hne
      have e := hc s hs p hp (by omega) q hq (by omega) hne
      have := (pairs_lt S s hs p hp).1
      have := (pairs_lt S s hs q hq).1
      rw [crosses_ins (by omega) (by omega) (by omega) (by omega)] at e
      exact e
theorem puts_nodup {c : Nat} : ∀ {l : List Nat}, c ∉ l → (puts c l).Nodup
  | [], _ => by
    unfold puts
    simp
  | d :: l, h => by
    unfold puts
    have hd : c ≠ d := fun q => h (q ▸ List.mem_cons_self ..)
    refine List.nodup_cons.mpr ⟨fun q => ?_, ?_⟩
    · obtain ⟨m, _, e⟩ := List.mem_map.mp q
      rw [List.cons.injEq] at e
      exact hd e.1.symm
    · refine List.pairwise_map.mpr ((puts_nodup fun q => h (List.mem_cons_of_mem _ q)).imp ?_)
      intro a b hab q
      rw [List.cons.injEq] at q
      exact hab q.2
theorem ins_inj {n : Nat} {xs ys us vs : List Nat} (h1 : n ∉ xs ++ ys) (h2 : n ∉ us ++ vs) (e : xs ++ n :: ys = us ++ n :: vs) : xs ++ ys = us ++ vs := by
  have key : ∀ {xs ys : List Nat}, n ∉ xs ++ ys → (xs ++ n :: ys).filter (fun x => x != n) = xs ++ ys := fun {xs ys} h => by
    rw [List.filter_append, List.filter_cons, if_neg (by simp), ← List.filter_append]
    refine List.filter_eq_self.mpr fun x hx => ?_
    rw [bne_iff_ne]
    exact fun q => h (q ▸ hx)
  rw [← key h1, e, key h2]
theorem rowsTo_nodup {w h : Nat} (S : Sheet w h) : ∀ n, (rowsTo w h n).Nodup
  | 0 => by
    unfold rowsTo
    simp
  | n + 1 => by
    unfold rowsTo
    have no : ∀ l ∈ rowsTo w h n, n ∉ l := fun l hl q => absurd (((mem_rowsTo S n l).mp hl).1.lt n q) (Nat.lt_irrefl n)
    refine List.pairwise_flatMap.mpr ⟨fun l hl => (puts_nodup (no l hl)).filter _, (rowsTo_nodup S n).imp_of_mem ?_⟩
    intro a b ha hb hab x hx y hy q
    subst q
    obtain ⟨xs, ys, e1, e2⟩ := mem_puts.mp (List.mem_filter.mp hx).1
    obtain ⟨us, vs, e3, e4⟩ := mem_puts.mp (List.mem_filter.mp hy).1
    refine hab ?_
    rw [e1, e3]
    exact ins_inj (by rw [← e1]; exact no a ha) (by rw [← e3]; exact no b hb) (e2.symm.trans e4)

/-! ### in order -/
theorem before_irrefl : ∀ l : List Nat, before l l = false
  | [] => rfl
  | a :: l => by
    unfold before
    rw [before_irrefl l]
    simp
theorem before_trans : ∀ {a b c : List Nat}, before a b = true → before b c = true → before a c = true
  | [], [], _, h, _ => by simp [before] at h
  | [], _ :: _, [], _, h => by simp [before] at h
  | [], _ :: _, _ :: _, _, _ => rfl
  | _ :: _, [], _, h, _ => by simp [before] at h
  | _ :: _, _ :: _, [], _, h => by simp [before] at h
  | x :: a, y :: b, z :: c, h1, h2 => by
    unfold before at h1 h2 ⊢
    simp only [Bool.or_eq_true, Bool.and_eq_true, decide_eq_true_eq, beq_iff_eq] at h1 h2 ⊢
    rcases h1 with h1 | ⟨e1, h1⟩
    · rcases h2 with h2 | ⟨e2, h2⟩
      · left; omega
      · left; omega
    · rcases h2 with h2 | ⟨e2, h2⟩
      · left; omega
      · exact .inr ⟨by omega, before_trans h1 h2⟩
theorem before_total : ∀ a b : List Nat, a = b ∨ before a b = true ∨ before b a = true
  | [], [] => .inl rfl
  | [], _ :: _ => .inr (.inl rfl)
  | _ :: _, [] => .inr (.inr rfl)
  | x :: a, y :: b => by
    unfold before
    simp only [Bool.or_eq_true, Bool.and_eq_true, decide_eq_true_eq, beq_iff_eq]
    rcases Nat.lt_trichotomy x y with h | h | h
    · exact .inr (.inl (.inl h))
    · subst h
      rcases before_total a b with e | e | e
      · exact .inl (by rw [e])
      · exact .inr (.inl (.inr ⟨rfl, e⟩))
      · exact .inr (.inr (.inr ⟨rfl, e⟩))
    · exact .inr (.inr (.inl h))
/-- two lists in strict order with the same items are one -/
theorem order_one : ∀ {l m : List (List Nat)}, (∀ x, x ∈ l ↔ x ∈ m) → l.Pairwise (fun a b => before a b = true) → m.Pairwise (fun a b => before a b = true) → l = m
  | [], [], _, _, _ => rfl
  | [], b :: m, h, _, _ => by
    have := (h b).mpr (List.mem_cons_self ..)
    simp at this
  | a :: l, [], h, _, _ => by
    have := (h a).mp (List.mem_cons_self ..)
    simp at this
  | a :: l, b :: m, h, h1, h2 => by
    have q1 := List.pairwise_cons.mp h1
    have q2 := List.pairwise_cons.mp h2
    have e : a = b := by
      rcases List.mem_cons.mp ((h a).mp (List.mem_cons_self ..)) with e | ha
      · exact e
      · rcases List.mem_cons.mp ((h b).mpr (List.mem_cons_self ..)) with e | hb
        · exact e.symm
        · have z := before_trans (q1.1 b hb) (q2.1 a ha)
          rw [before_irrefl] at z
          cases z
    subst e
    have no : ∀ {l : List (List Nat)}, (∀ x ∈ l, before a x = true) → a ∉ l := fun k q => by
      have z := k a q
      rw [before_irrefl] at z
      cases z
    refine congrArg _ (order_one (fun x => ?_) q1.2 q2.2)
    have hx := h x
    rw [List.mem_cons, List.mem_cons] at hx
    constructor
    · intro z
      rcases hx.mp (.inr z) with e | y
      · subst e
        exact absurd z (no q1.1)
      · exact y
    · intro z
      rcases hx.mpr (.inr z) with e | y
      · subst e
        exact absurd z (no q2.1)
      · exact y
def leB (a b : List Nat) : Bool := a == b || before a b
theorem leB_trans (a b c : List Nat) (h1 : leB a b = true) (h2 : leB b c = true) : leB a c = true := by
  unfold leB at *
  simp only [Bool.or_eq_true, beq_iff_eq] at *
  rcases h1 with rfl | h1
  · exact h2
  · rcases h2 with rfl | h2
    · exact .inr h1
    · exact .inr (before_trans h1 h2)
theorem leB_total (a b : List Nat) : (leB a b || leB b a) = true := by
  unfold leB
  simp only [Bool.or_eq_true, beq_iff_eq]
  rcases before_total a b with h | h | h
  · exact .inl (.inl h)
  · exact .inl (.inr h)
  · exact .inr (.inr h)
/-- what stands sorted, each once -/
theorem sort_one {l m : List (List Nat)} (hn : l.Nodup) (hm : ∀ x, x ∈ m ↔ x ∈ l) (hs : m.Pairwise (fun a b => before a b = true)) : l.mergeSort (fun a b => a == b || before a b) = m := by
  have p := List.mergeSort_perm l leB
  have s := List.pairwise_mergeSort leB_trans leB_total l
  have n2 : (l.mergeSort leB).Nodup := p.nodup_iff.mpr hn
  refine order_one (l := l.mergeSort leB) (fun x => ?_) ?_ hs
  · rw [hm x]
    exact p.mem_iff
  · refine (List.pairwise_and_iff.mpr ⟨s, n2⟩).imp ?_
    rintro a b ⟨h1, h2⟩
    unfold leB at h1
    rw [Bool.or_eq_true, beq_iff_eq] at h1
    rcases h1 with h1 | h1
    · exact absurd h1 h2
    · exact h1
/-- a row that can be -/
def canBe (w h : Nat) (r : List Nat) : Prop := Row (w * h) r ∧ ∀ c, c < w * h → atF w h r c = false
theorem pairs_tS {w h : Nat} (S : Sheet w h) : ∀ s, s < 4 → ∀ p ∈ pairsAt w h s, tS w h s p.1 = some p.2 ∧ tS w h s p.2 = some p.1 :=
  by_sheets (P := fun w h => ∀ s, s < 4 → ∀ p ∈ pairsAt w h s, tS w h s p.1 = some p.2 ∧ tS w h s p.2 = some p.1) (by decide +kernel) S
theorem tS_pairs0 {w h : Nat} (S : Sheet w h) : ∀ s, s < 4 → ∀ c, c < w * h → tS w h s c = none ∨ (c, (tS w h s c).getD 0) ∈ pairsAt w h s ∨ ((tS w h s c).getD 0, c) ∈ pairsAt w h s :=
  by_sheets (P := fun w h => ∀ s, s < 4 → ∀ c, c < w * h → tS w h s c = none ∨ (c, (tS w h s c).getD 0) ∈ pairsAt w h s ∨ ((tS w h s c).getD 0, c) ∈ pairsAt w h s) (by decide +kernel) S
theorem tS_pairs {w h : Nat} (S : Sheet w h) {s c a : Nat} (hs : s < 4) (hc : c < w * h) (e : tS w h s c = some a) : (c, a) ∈ pairsAt w h s ∨ (a, c) ∈ pairsAt w h s := by
  have := tS_pairs0 S s hs c hc
  rw [e] at this
  simpa using this
theorem four_any {p : Nat → Bool} : [0, 1, 2, 3].any p = true ↔ ∃ s, s < 4 ∧ p s = true := by
  constructor
  · intro h
    obtain ⟨s, hs, e⟩ := List.any_eq_true.mp h
    refine ⟨s, ?_, e⟩
    simp at hs
    omega
  · rintro ⟨s, hs, e⟩
    refine List.any_eq_true.mpr ⟨s, ?_, e⟩
    simp
    omega
theorem atF_true (w h : Nat) (r : List Nat) (c : Nat) : atF w h r c = true ↔ ∃ d, d < w * h ∧ c < d ∧ ∃ s, s < 4 ∧ goes2 (tS w h s) (place r) c d = true := by
  unfold atF
  rw [List.any_eq_true]
  constructor
  · rintro ⟨d, hd, e⟩
    rw [Bool.and_eq_true, decide_eq_true_eq, four_any] at e
    exact ⟨d, List.mem_range.mp hd, e.1, e.2⟩
  · rintro ⟨d, hd, e1, e2⟩
    refine ⟨d, List.mem_range.mpr hd, ?_⟩
    rw [Bool.and_eq_true, decide_eq_true_eq, four_any]
    exact ⟨e1, e2⟩
theorem clear_canBe {w h : Nat} (S : Sheet w h) {r : List Nat} (R : Row (w * h) r) : clear w h (w * h) r = true ↔ ∀ c, c < w * h → atF w h r c = false := by
  rw [clear_iff]
  constructor
  · intro k c hc
    cases e : atF w h r c with
    | false => rfl
    | true =>
      exfalso
      obtain ⟨d, hd, hcd, s, hs, g⟩ := (atF_true w h r c).mp e
      unfold goes2 at g
      cases e1 : tS w h s c with
      | none => rw [e1] at g; cases g
      | some a =>
        cases e2 : tS w h s d with
        | none => rw [e1, e2] at g; cases g
        | some b =>
          rw [e1, e2] at g
          simp only [Bool.and_eq_true] at g
          obtain ⟨g1, g2⟩ := g
          rw [bne_iff_ne] at g1
          -- the pairs that c and d are of
          have hp := tS_pairs S hs hc e1
          have hq := tS_pairs S hs hd e2
          have key : ∀ p ∈ pairsAt w h s, ∀ q ∈ pairsAt w h s, (p = (c, a) ∨ p = (a, c)) → (q = (d, b) ∨ q = (b, d)) → False := by
            intro p hp q hq ep eq
            have lp := pairs_lt S s hs p hp
            have lq := pairs_lt S s hs q hq
            have tp := pairs_tS S s hs p hp
            have tq := pairs_tS S s hs q hq
            have hne : p.1 ≠ q.1 := by
              intro z
              rw [z, tq.1] at tp
              have z2 : q.2 = p.2 := Option.some.inj tp.1
              rcases ep with rfl | rfl <;> rcases eq with rfl | rfl <;> simp only at z z2 <;> omega
            have f := k s hs p hp lp.2 q hq lq.2 hne
            unfold crosses at f
            dsimp only at f
            rcases ep with rfl | rfl <;> rcases eq with rfl | rfl <;> simp only at f
            · rw [f] at g2; cases g2
            · rw [bne_comm] at f; rw [f] at g2; cases g2
            · rw [btw_comm, btw_comm (place r a)] at f; rw [f] at g2; cases g2
            · rw [btw_comm, btw_comm (place r a), bne_comm] at f; rw [f] at g2; cases g2
          rcases hp with hp | hp <;> rcases hq with hq | hq
          · exact key _ hp _ hq (.inl rfl) (.inl rfl)
          · exact key _ hp _ hq (.inl rfl) (.inr rfl)
          · exact key _ hp _ hq (.inr rfl) (.inl rfl)
          · exact key _ hp _ hq (.inr rfl) (.inr rfl)
  · intro k s hs p hp hpn q hq hqn hne
    cases e : crosses r p.1 p.2 q.1 q.2 with
    | false => rfl
    | true =>
      exfalso
      have lp := pairs_lt S s hs p hp
      have lq := pairs_lt S s hs q hq
      have tp := pairs_tS S s hs p hp
      have tq := pairs_tS S s hs q hq
      have n1 : p.1 ≠ q.2 := by
        intro z
        have z1 := tp.1
        rw [z, tq.2] at z1
        have := Option.some.inj z1
        omega
      have n2 : p.2 ≠ q.1 := by
        intro z
        have z1 := tp.2
        rw [z, tq.1] at z1
        have := Option.some.inj z1
        omega
      have n3 : p.2 ≠ q.2 := by
        intro z
        have z1 := tp.2
        rw [z, tq.2] at z1
        exact hne (Option.some.inj z1).symm
      have pn : ∀ {x y : Nat}, x < w * h → y < w * h → x ≠ y → place r x ≠ place r y := fun hx hy hxy z => hxy (place_inj R hx hy z)
      have hp1 : p.1 < w * h := by omega
      have hq1 : q.1 < w * h := by omega
      unfold crosses at e
      dsimp only at e
      rcases Nat.lt_or_gt_of_ne hne with l | l
      · have f := k p.1 hp1
        have t : atF w h r p.1 = true := (atF_true w h r p.1).mpr ⟨q.1, hq1, l, s, hs, by
          unfold goes2
          rw [tp.1, tq.1]
          simp only [e, Bool.and_true, bne_iff_ne]
          exact fun z => n2 z.symm⟩
        rw [t] at f
        cases f
      · have f := k q.1 hq1
        rw [cross_symm (pn hp1 hq1 hne) (pn hp1 hqn n1) (pn hpn hq1 n2) (pn hpn hqn n3) (pn hp1 hpn (by omega)) (pn hq1 hqn (by omega))] at e
        have t : atF w h r q.1 = true := (atF_true w h r q.1).mpr ⟨p.1, hp1, l, s, hs, by
          unfold goes2
          rw [tp.1, tq.1]
          simp only [e, Bool.and_true, bne_iff_ne]
          exact n1⟩
        rw [t] at f
        cases f
/-- **all rows that can be, in order**: any list that is in strict order and has just these -/
theorem rows_one {w h : Nat} (S : Sheet w h) {m : List (List Nat)} (hm : ∀ r, r ∈ m ↔ canBe w h r) (hs : m.Pairwise (fun a b => before a b = true)) : rows w h = m := by
  unfold rows
  refine sort_one (rowsTo_nodup S _) (fun r => ?_) hs
  rw [hm r, mem_rowsTo S]
  unfold canBe
  constructor
  · rintro ⟨R, k⟩
    exact ⟨R, (clear_canBe S R).mpr k⟩
  · rintro ⟨R, k⟩
    exact ⟨R, (clear_canBe S R).mp k⟩
end Os
end
section
set_option Elab.async false
set_option maxRecDepth 100000
namespace Os
open PfPk PfHp PfbSp
theorem nodup_dups {α : Type} [BEq α] [LawfulBEq α] : ∀ (n : Nat) (l : List α), l.length ≤ n → l.eraseDups.Nodup
  | _, [], _ => by simp
  | 0, a :: l, h => by simp at h
  | n + 1, a :: l, h => by
    rw [List.eraseDups_cons]
    refine List.nodup_cons.mpr ⟨fun q => ?_, nodup_dups n _ ?_⟩
    · have := (List.mem_filter.mp (List.mem_eraseDups.mp q)).2
      simp at this
    · rw [List.length_cons] at h
      exact Nat.le_trans (List.length_filter_le _ _) (by omega)
/-- **all rows of creases, in order** -/
theorem allCreases_one {w h : Nat} {m : List (List Nat)} (hm : ∀ x, x ∈ m ↔ ∃ r ∈ rows w h, creasesOf w h r = x) (hs : m.Pairwise (fun a b => before a b = true)) : allCreases w h = m := by
  unfold allCreases
  refine sort_one (nodup_dups _ _ (Nat.le_refl _)) (fun x => ?_) hs
  rw [hm x, List.mem_eraseDups, List.mem_map]
theorem rows_iff {w h : Nat} (S : Sheet w h) (r : List Nat) : r ∈ rows w h ↔ canBe w h r := by
  unfold rows
  rw [(List.mergeSort_perm _ _).mem_iff, mem_rowsTo S]
  unfold canBe
  constructor
  · rintro ⟨R, k⟩
    exact ⟨R, (clear_canBe S R).mp k⟩
  · rintro ⟨R, k⟩
    exact ⟨R, (clear_canBe S R).mpr k⟩
theorem rows_order {w h : Nat} (S : Sheet w h) : (rows w h).Pairwise (fun a b => before a b = true) := by
  unfold rows
  have p := List.mergeSort_perm (rowsTo w h (w * h)) leB
  have s := List.pairwise_mergeSort leB_trans leB_total (rowsTo w h (w * h))
  have n2 : ((rowsTo w h (w * h)).mergeSort leB).Nodup := p.nodup_iff.mpr (rowsTo_nodup S _)
  show ((rowsTo w h (w * h)).mergeSort leB).Pairwise _
  refine (List.pairwise_and_iff.mpr ⟨s, n2⟩).imp ?_
  rintro a b ⟨h1, h2⟩
  unfold leB at h1
  rw [Bool.or_eq_true, beq_iff_eq] at h1
  rcases h1 with h1 | h1
  · exact absurd h1 h2
  · exact h1
theorem lines_folds {w h : Nat} (S : Sheet w h) : lines w h = (foldsOf w h).length :=
  by_sheets (P := fun w h => lines w h = (foldsOf w h).length) (by decide +kernel) S
end Os
end
section
set_option Elab.async false
set_option maxRecDepth 100000
namespace Os
open PfPk PfHp PfbSp

/-! ### a row that can be, by chords -/
theorem tS_inv {w h : Nat} (S : Sheet w h) {s c a : Nat} (hs : s < 4) (hc : c < w * h) (e : tS w h s c = some a) : tS w h s a = some c := by
  rcases tS_pairs S hs hc e with p | p
  · exact (pairs_tS S s hs _ p).2
  · exact (pairs_tS S s hs _ p).1
/-- no two chords cross -/
def NX (w h : Nat) (z : Nat → Nat) : Prop := ∀ s, s < 4 → ∀ c d a b, c < w * h → d < w * h → tS w h s c = some a → tS w h s d = some b → d ≠ c → d ≠ a → between (z c) (z a) (z d) = between (z c) (z a) (z b)
/-- what lies within a chord is joined within it -/
def Cl (w h : Nat) (z : Nat → Nat) : Prop := ∀ s, s < 4 → ∀ x a o b, x < w * h → o < w * h → tS w h s x = some a → tS w h s o = some b → z a < z o → z o < z x → z a < z b ∧ z b < z x
theorem goes2_at {t : Nat → Option Nat} {z : Nat → Nat} {c d a b : Nat} (e1 : t c = some a) (e2 : t d = some b) : goes2 t z c d = (d != a && (between (z c) (z a) (z d) != between (z c) (z a) (z b))) := by
  unfold goes2
  rw [e1, e2]
theorem four_apart {w h : Nat} (S : Sheet w h) {s c d a b : Nat} (hs : s < 4) (hc : c < w * h) (hd : d < w * h) (e1 : tS w h s c = some a) (e2 : tS w h s d = some b) (n1 : d ≠ c) (n2 : d ≠ a) : a < w * h ∧ b < w * h ∧ c ≠ b ∧ a ≠ b ∧ c ≠ a ∧ d ≠ b := by
  have i1 := tS_inv S hs hc e1
  have i2 := tS_inv S hs hd e2
  refine ⟨tS_lt S c hc s hs a e1, tS_lt S d hd s hs b e2, fun z => ?_, fun z => ?_, fun z => ?_, fun z => ?_⟩
  · subst z
    rw [e1] at i2
    exact n2 (Option.some.inj i2).symm
  · subst z
    rw [i1] at i2
    exact n1 (Option.some.inj i2).symm
  · subst z
    exact tS_ne S _ hc s hs e1
  · subst z
    exact tS_ne S _ hd s hs e2
theorem canBe_nx {w h : Nat} (S : Sheet w h) {r : List Nat} : canBe w h r ↔ Row (w * h) r ∧ NX w h (place r) := by
  unfold canBe
  refine and_congr_right fun R => ?_
  have pn : ∀ {x y : Nat}, x < w * h → y < w * h → x ≠ y → place r x ≠ place r y := fun hx hy hxy z => hxy (place_inj R hx hy z)
  constructor
  · intro k s hs c d a b hc hd e1 e2 n1 n2
    obtain ⟨ha, hb, m1, m2, m3, m4⟩ := four_apart S hs hc hd e1 e2 n1 n2
    cases e : (between (place r c) (place r a) (place r d) != between (place r c) (place r a) (place r b)) with
    | false => simpa using e
    | true =>
      exfalso
      rcases Nat.lt_or_gt_of_ne n1 with l | l
      · have f := k d hd
        have t : atF w h r d = true := (atF_true w h r d).mpr ⟨c, hc, l, s, hs, by
          rw [goes2_at e2 e1]
          rw [cross_symm (pn hc hd n1.symm) (pn hc hb m1) (pn ha hd n2.symm) (pn ha hb m2) (pn hc ha m3) (pn hd hb m4)] at e
          rw [e, Bool.and_true, bne_iff_ne]
          exact m1⟩
        rw [t] at f
        cases f
      · have f := k c hc
        have t : atF w h r c = true := (atF_true w h r c).mpr ⟨d, hd, l, s, hs, by
          rw [goes2_at e1 e2, e, Bool.and_true, bne_iff_ne]
          exact n2⟩
        rw [t] at f
        cases f
  · intro k c hc
    cases e : atF w h r c with
    | false => rfl
    | true =>
      exfalso
      obtain ⟨d, hd, hcd, s, hs, g⟩ := (atF_true w h r c).mp e
      cases e1 : tS w h s c with
      | none => unfold goes2 at g; rw [e1] at g; cases g
      | some a =>
        cases e2 : tS w h s d with
        | none => unfold goes2 at g; rw [e1, e2] at g; cases g
        | some b =>
          rw [goes2_at e1 e2, Bool.and_eq_true, bne_iff_ne, bne_iff_ne] at g
          exact g.2 (k s hs c d a b hc hd e1 e2 (by omega) g.1)
theorem nx_cl {w h : Nat} (S : Sheet w h) {z : Nat → Nat} (zi : ∀ {x y : Nat}, x < w * h → y < w * h → x ≠ y → z x ≠ z y) : NX w h z ↔ Cl w h z := by
  constructor
  · intro k s hs x a o b hx ho e1 e2 l1 l2
    have g := k s hs x o a b hx ho e1 e2 (fun q => by subst q; omega) (fun q => by subst q; omega)
    rw [Bool.eq_iff_iff, btw_iff, btw_iff] at g
    omega
  · intro k s hs c d a b hc hd e1 e2 n1 n2
    obtain ⟨ha, hb, m1, m2, m3, m4⟩ := four_apart S hs hc hd e1 e2 n1 n2
    have i1 := tS_inv S hs hc e1
    have i2 := tS_inv S hs hd e2
    have z1 := zi hc hd n1.symm
    have z2 := zi hc hb m1
    have z3 := zi ha hd n2.symm
    have z4 := zi ha hb m2
    have z5 := zi hc ha m3
    have z6 := zi hd hb m4
    have k1 := k s hs c a d b hc hd e1 e2
    have k2 := k s hs a c d b ha hd i1 e2
    have k3 := k s hs c a b d hc hb e1 i2
    have k4 := k s hs a c b d ha hb i1 i2
    have k5 := k s hs d b c a hd hc e2 e1
    have k6 := k s hs b d c a hb hc i2 e1
    have k7 := k s hs d b a c hd ha e2 i1
    have k8 := k s hs b d a c hb ha i2 i1
    rw [Bool.eq_iff_iff, btw_iff, btw_iff]
    generalize z c = C at *
    generalize z d = D at *
    generalize z a = A at *
    generalize z b = B at *
    omega

/-! ### a square laid on a row -/
/-- x laid on the row goes through nothing at a side -/
def closes (t : Nat → Option Nat) (r : List Nat) (x : Nat) : Bool := match t x with
  | none => true
  | some a => if a ∈ r then (r.drop (place r a + 1)).all fun o => match t o with
      | none => true
      | some b => decide (b ∈ r.drop (place r a + 1))
    else true
def lies (w h : Nat) (r : List Nat) (x : Nat) : Bool := [0, 1, 2, 3].all fun s => closes (tS w h s) r x
theorem closes_iff (t : Nat → Option Nat) (r : List Nat) (x : Nat) : closes t r x = true ↔ ∀ a, t x = some a → a ∈ r → ∀ o ∈ r.drop (place r a + 1), ∀ b, t o = some b → b ∈ r.drop (place r a + 1) := by
  unfold closes
  cases e : t x with
  | none => simp
  | some a =>
    dsimp only
    by_cases q : a ∈ r
    · rw [if_pos q, List.all_eq_true]
      constructor
      · intro k a' ea _ o ho b eb
        cases ea
        have := k o ho
        rw [eb] at this
        exact of_decide_eq_true this
      · intro k o ho
        cases eb : t o with
        | none => rfl
        | some b => exact decide_eq_true (k a rfl q o ho b eb)
    · rw [if_neg q]
      constructor
      · intro _ a' ea ha
        cases ea
        exact absurd ha q
      · intro _; rfl
theorem lies_iff (w h : Nat) (r : List Nat) (x : Nat) : lies w h r x = true ↔ ∀ s, s < 4 → closes (tS w h s) r x = true := by
  unfold lies
  rw [List.all_eq_true]
  constructor
  · intro k s hs
    exact k s (by simp; omega)
  · intro k s hs
    exact k s (by simp at hs; omega)
theorem place_take {r : List Nat} {i a : Nat} (ha : a ∈ r.take i) : place (r.take i) a = place r a := by
  unfold place
  conv => rhs; rw [← List.take_append_drop i r, List.findIdx_append]
  have h := List.findIdx_lt_length_of_exists (p := fun d => d == a) (xs := r.take i) ⟨a, ha, beq_self_eq_true a⟩
  rw [if_pos h]
theorem mem_cut {n : Nat} {r : List Nat} (R : Row n r) {i j o : Nat} (ho : o < n) : o ∈ (r.take i).drop (j + 1) ↔ j < place r o ∧ place r o < i := by
  rw [List.mem_iff_getElem?]
  constructor
  · rintro ⟨p, hp⟩
    rw [List.getElem?_drop, List.getElem?_take] at hp
    split at hp
    · have := place_of R hp
      omega
    · cases hp
  · rintro ⟨h1, h2⟩
    refine ⟨place r o - (j + 1), ?_⟩
    rw [List.getElem?_drop, List.getElem?_take, if_pos (by omega)]
    have e : j + 1 + (place r o - (j + 1)) = place r o := by omega
    rw [e]
    exact place_at R ho
theorem mem_take_row {n : Nat} {r : List Nat} (R : Row n r) {i o : Nat} (ho : o < n) : o ∈ r.take i ↔ place r o < i := by
  rw [List.mem_iff_getElem?]
  constructor
  · rintro ⟨p, hp⟩
    rw [List.getElem?_take] at hp
    split at hp
    · have := place_of R hp
      omega
    · cases hp
  · intro h1
    exact ⟨place r o, by rw [List.getElem?_take, if_pos h1]; exact place_at R ho⟩
theorem lies_cl {w h : Nat} (S : Sheet w h) {r : List Nat} (R : Row (w * h) r) : (∀ i x, r[i]? = some x → lies w h (r.take i) x = true) ↔ Cl w h (place r) := by
  constructor
  · intro k s hs x a o b hx ho e1 e2 l1 l2
    have ha := tS_lt S x hx s hs a e1
    have hb := tS_lt S o ho s hs b e2
    have g := (closes_iff _ _ _).mp ((lies_iff w h _ x).mp (k (place r x) x (place_at R hx)) s hs) a e1 ((mem_take_row R ha).mpr (by omega))
    rw [place_take ((mem_take_row R ha).mpr (by omega))] at g
    exact (mem_cut R hb).mp (g o ((mem_cut R ho).mpr ⟨l1, l2⟩) b e2)
  · intro k i x hx
    have hxn : x < w * h := R.lt x (List.mem_of_getElem? hx)
    have ei := place_of R hx
    refine (lies_iff w h _ x).mpr fun s hs => (closes_iff _ _ _).mpr fun a e1 ha o ho b e2 => ?_
    have han := tS_lt S x hxn s hs a e1
    have hon : o < w * h := R.lt o (List.mem_of_mem_take (List.mem_of_mem_drop ho))
    have hbn := tS_lt S o hon s hs b e2
    rw [place_take ha] at ho ⊢
    have q := (mem_cut R hon).mp ho
    rw [mem_cut R hbn, ← ei]
    exact k s hs x a o b hxn hon e1 e2 q.1 (by omega)

/-! ### the rows upon a square -/
def more (w h : Nat) (l : List (List Nat)) : List (List Nat) := l.flatMap fun r => ((List.range (w * h)).filter fun x => decide (x ∉ r) && lies w h r x).map fun x => r ++ [x]
def upTo (w h b : Nat) : Nat → List (List Nat)
  | 0 => [[b]]
  | k + 1 => more w h (upTo w h b k)
def upon (w h b : Nat) : List (List Nat) := upTo w h b (w * h - 1)
structure Good (w h : Nat) (r : List Nat) : Prop where
  nd : r.Nodup
  lt : ∀ x ∈ r, x < w * h
  li : ∀ i x, r[i]? = some x → lies w h (r.take i) x = true
theorem good_snoc {w h : Nat} {r : List Nat} {x : Nat} : Good w h (r ++ [x]) ↔ Good w h r ∧ x ∉ r ∧ x < w * h ∧ lies w h r x = true := by
  constructor
  · intro G
    have nd := List.nodup_append.mp G.nd
    refine ⟨⟨nd.1, fun y hy => G.lt y (List.mem_append_left _ hy), fun i y hy => ?_⟩, fun q => nd.2.2 x q x (List.mem_singleton.mpr rfl) rfl, G.lt x (by simp), ?_⟩
    · have hi : i < r.length := (List.getElem?_eq_some_iff.mp hy).1
      have g := G.li i y (by rw [List.getElem?_append_left hi]; exact hy)
      rw [List.take_append_of_le_length (by omega)] at g
      exact g
    · have g := G.li r.length x (by simp)
      rw [List.take_left'] at g
      · exact g
      · rfl
  · rintro ⟨G, hx, hxn, hl⟩
    refine ⟨List.nodup_append.mpr ⟨G.nd, by simp, fun u hu v hv q => ?_⟩, fun y hy => ?_, fun i y hy => ?_⟩
    · rw [List.mem_singleton] at hv
      exact hx (by rw [← hv, ← q]; exact hu)
    · rcases List.mem_append.mp hy with hy | hy
      · exact G.lt y hy
      · rw [List.mem_singleton] at hy
        rw [hy]
        exact hxn
    · by_cases hi : i < r.length
      · rw [List.getElem?_append_left hi] at hy
        rw [List.take_append_of_le_length (by omega)]
        exact G.li i y hy
      · have hi2 : i < (r ++ [x]).length := (List.getElem?_eq_some_iff.mp hy).1
        rw [List.length_append, List.length_singleton] at hi2
        have e : i = r.length := by omega
        subst e
        rw [List.take_left' rfl]
        simp at hy
        rw [← hy]
        exact hl
theorem mem_more {w h : Nat} {l : List (List Nat)} {r : List Nat} : r ∈ more w h l ↔ ∃ q x, r = q ++ [x] ∧ q ∈ l ∧ x < w * h ∧ x ∉ q ∧ lies w h q x = true := by
  unfold more
  rw [List.mem_flatMap]
  constructor
  · rintro ⟨q, hq, hr⟩
    obtain ⟨x, hx, rfl⟩ := List.mem_map.mp hr
    obtain ⟨h1, h2⟩ := List.mem_filter.mp hx
    rw [Bool.and_eq_true, decide_eq_true_eq] at h2
    exact ⟨q, x, rfl, hq, List.mem_range.mp h1, h2.1, h2.2⟩
  · rintro ⟨q, x, rfl, hq, h1, h2, h3⟩
    refine ⟨q, hq, List.mem_map.mpr ⟨x, List.mem_filter.mpr ⟨List.mem_range.mpr h1, ?_⟩, rfl⟩⟩
    rw [Bool.and_eq_true, decide_eq_true_eq]
    exact ⟨h2, h3⟩
theorem lies_nil (w h x : Nat) : lies w h [] x = true := by
  rw [lies_iff]
  intro s _
  rw [closes_iff]
  intro a _ ha
  cases ha
theorem mem_upTo {w h b : Nat} (hb : b < w * h) : ∀ (k : Nat) (r : List Nat), r ∈ upTo w h b k ↔ r.length = k + 1 ∧ r.head? = some b ∧ Good w h r
  | 0, r => by
    unfold upTo
    rw [List.mem_singleton]
    constructor
    · rintro rfl
      refine ⟨rfl, rfl, (good_snoc (r := []) (x := b)).mpr ⟨⟨List.nodup_nil, by simp, by simp⟩, by simp, hb, lies_nil w h b⟩⟩
    · rintro ⟨h1, h2, _⟩
      obtain ⟨x, rfl⟩ := List.length_eq_one_iff.mp h1
      simp at h2
      rw [h2]
  | k + 1, r => by
    unfold upTo
    rw [mem_more]
    constructor
    · rintro ⟨q, x, rfl, hq, h1, h2, h3⟩
      obtain ⟨g1, g2, g3⟩ := (mem_upTo hb k q).mp hq
      refine ⟨by rw [List.length_append, g1]; rfl, ?_, good_snoc.mpr ⟨g3, h2, h1, h3⟩⟩
      rw [List.head?_append, g2]
      rfl
    · rintro ⟨h1, h2, h3⟩
      rcases List.eq_nil_or_concat r with rfl | ⟨q, x, rfl⟩
      · cases h1
      · rw [List.concat_eq_append] at *
        obtain ⟨g, n1, n2, n3⟩ := good_snoc.mp h3
        rw [List.length_append, List.length_singleton] at h1
        refine ⟨q, x, rfl, (mem_upTo hb k q).mpr ⟨by omega, ?_, g⟩, n2, n1, n3⟩
        rw [List.head?_append] at h2
        cases q with
        | nil => simp at h1
        | cons y q => simpa using h2
theorem mem_upon {w h b : Nat} (S : Sheet w h) (hb : b < w * h) (r : List Nat) : r ∈ upon w h b ↔ canBe w h r ∧ r.head? = some b := by
  unfold upon
  rw [mem_upTo hb, canBe_nx S]
  have zi : Row (w * h) r → ∀ {x y : Nat}, x < w * h → y < w * h → x ≠ y → place r x ≠ place r y := fun R _ _ hx hy hxy z => hxy (place_inj R hx hy z)
  constructor
  · rintro ⟨h1, h2, G⟩
    have R : Row (w * h) r := ⟨by omega, G.nd, G.lt⟩
    exact ⟨⟨R, (nx_cl S (zi R)).mpr ((lies_cl S R).mp G.li)⟩, h2⟩
  · rintro ⟨⟨R, k⟩, h2⟩
    have := R.len
    exact ⟨by omega, h2, R.nd, R.lt, (lies_cl S R).mpr ((nx_cl S (zi R)).mp k)⟩
/-! ### in order -/
theorem before_app : ∀ {a b : List Nat} (u v : List Nat), a.length = b.length → before a b = true → before (a ++ u) (b ++ v) = true
  | [], [], _, _, _, h => by simp [before] at h
  | [], _ :: _, _, _, h, _ => by simp at h
  | _ :: _, [], _, _, h, _ => by simp at h
  | x :: a, y :: b, u, v, hl, h => by
    rw [List.cons_append, List.cons_append]
    unfold before at h ⊢
    simp only [Bool.or_eq_true, Bool.and_eq_true, decide_eq_true_eq, beq_iff_eq] at h ⊢
    rcases h with h | ⟨e, h⟩
    · exact .inl h
    · exact .inr ⟨e, before_app u v (by simpa using hl) h⟩
theorem before_snoc {x y : Nat} (hxy : x < y) : ∀ r : List Nat, before (r ++ [x]) (r ++ [y]) = true
  | [] => by simp [before, hxy]
  | a :: r => by
    rw [List.cons_append, List.cons_append]
    unfold before
    rw [before_snoc hxy r]
    simp
theorem more_order {w h : Nat} {l : List (List Nat)} {n : Nat} (hn : ∀ r ∈ l, r.length = n) (hs : l.Pairwise (fun a b => before a b = true)) : (more w h l).Pairwise (fun a b => before a b = true) := by
  unfold more
  refine List.pairwise_flatMap.mpr ⟨fun r _ => ?_, hs.imp_of_mem ?_⟩
  · refine List.pairwise_map.mpr ?_
    exact (List.pairwise_lt_range.filter _).imp fun hxy => before_snoc hxy r
  · intro a b ha hb hab x hx y hy
    obtain ⟨u, _, rfl⟩ := List.mem_map.mp hx
    obtain ⟨v, _, rfl⟩ := List.mem_map.mp hy
    exact before_app _ _ (by rw [hn a ha, hn b hb]) hab
theorem upTo_order {w h b : Nat} (hb : b < w * h) : ∀ k, (upTo w h b k).Pairwise (fun a b => before a b = true)
  | 0 => by
    unfold upTo
    simp
  | k + 1 => by
    unfold upTo
    exact more_order (n := k + 1) (fun r hr => ((mem_upTo hb k r).mp hr).1) (upTo_order hb k)
/-- **the rows that can be**, square by square at the bottom -/
theorem rows_upon {w h : Nat} (S : Sheet w h) : rows w h = (List.range (w * h)).flatMap (upon w h) := by
  refine rows_one S (fun r => ?_) ?_
  · rw [List.mem_flatMap]
    constructor
    · rintro ⟨b, hb, hr⟩
      exact ((mem_upon S (List.mem_range.mp hb) r).mp hr).1
    · intro k
      have hl := k.1.len
      have h1 := S.w1
      have h2 := S.h1
      have hp : 0 < w * h := Nat.mul_pos h1 h2
      cases r with
      | nil => rw [← hl] at hp; simp at hp
      | cons b r =>
        have hb := k.1.lt b (List.mem_cons_self ..)
        exact ⟨b, List.mem_range.mpr hb, (mem_upon S hb _).mpr ⟨k, rfl⟩⟩
  · refine List.pairwise_flatMap.mpr ⟨fun b hb => upTo_order (List.mem_range.mp hb) _, List.pairwise_lt_range.imp_of_mem ?_⟩
    intro a b ha hb hab x hx y hy
    have q1 := ((mem_upon S (List.mem_range.mp ha) x).mp hx).2
    have q2 := ((mem_upon S (List.mem_range.mp hb) y).mp hy).2
    cases x with
    | nil => cases q1
    | cons x xs =>
      cases y with
      | nil => cases q2
      | cons y ys =>
        cases q1
        cases q2
        unfold before
        simp [hab]
theorem nodup_of_order {l : List (List Nat)} (h : l.Pairwise (fun a b => before a b = true)) : l.Nodup := h.imp fun {a b} q e => by
  subst e
  rw [before_irrefl] at q
  cases q

/-! ### the top put to the bottom -/
theorem row_rot {n : Nat} {A B : List Nat} (R : Row n (A ++ B)) : Row n (B ++ A) := by
  have p : (B ++ A).Perm (A ++ B) := List.perm_append_comm
  exact ⟨by rw [p.length_eq]; exact R.len, p.nodup_iff.mpr R.nd, fun x hx => R.lt x (p.mem_iff.mp hx)⟩
theorem place_app {A B : List Nat} {x : Nat} : (x ∈ A ∧ place (A ++ B) x = place A x ∧ place A x < A.length) ∨ (x ∉ A ∧ place (A ++ B) x = A.length + place B x) := by
  unfold place
  rw [List.findIdx_append]
  by_cases q : x ∈ A
  · have h := List.findIdx_lt_length_of_exists (p := fun d => d == x) (xs := A) ⟨x, q, beq_self_eq_true x⟩
    rw [if_pos h]
    exact .inl ⟨q, rfl, h⟩
  · have h : ¬ A.findIdx (fun d => d == x) < A.length := fun h => by
      have := List.findIdx_getElem (w := h)
      exact q (by rw [← eq_of_beq this]; exact List.getElem_mem h)
    rw [if_neg h]
    exact .inr ⟨q, by omega⟩
theorem place_rot {n : Nat} {A B : List Nat} (R : Row n (A ++ B)) {x : Nat} (hx : x < n) : place (A ++ B) x < A.length + B.length ∧ ((place (A ++ B) x < A.length ∧ place (B ++ A) x = place (A ++ B) x + B.length) ∨ (A.length ≤ place (A ++ B) x ∧ place (B ++ A) x = place (A ++ B) x - A.length)) := by
  have hl := R.len
  rw [List.length_append] at hl
  have h1 := place_lt R hx
  have nd := List.nodup_append.mp R.nd
  have hm := List.mem_append.mp (R.mem x hx)
  rcases place_app (A := A) (B := B) (x := x) with ⟨a1, a2, a3⟩ | ⟨a1, a2⟩
  · have nb : x ∉ B := fun q => nd.2.2 x a1 x q rfl
    rcases place_app (A := B) (B := A) (x := x) with ⟨b1, b2, b3⟩ | ⟨b1, b2⟩
    · exact absurd b1 nb
    · omega
  · have hB : x ∈ B := by
      rcases hm with q | q
      · exact absurd q a1
      · exact q
    rcases place_app (A := B) (B := A) (x := x) with ⟨b1, b2, b3⟩ | ⟨b1, b2⟩
    · omega
    · exact absurd hB b1
theorem canBe_rot {w h : Nat} (S : Sheet w h) {A B : List Nat} (k : canBe w h (A ++ B)) : canBe w h (B ++ A) := by
  rw [canBe_nx S] at k ⊢
  obtain ⟨R, k⟩ := k
  refine ⟨row_rot R, fun s hs c d a b hc hd e1 e2 n1 n2 => ?_⟩
  obtain ⟨ha, hb, m1, m2, m3, m4⟩ := four_apart S hs hc hd e1 e2 n1 n2
  have g := k s hs c d a b hc hd e1 e2 n1 n2
  rw [Bool.eq_iff_iff, btw_iff, btw_iff] at g ⊢
  have pn : ∀ {x y : Nat}, x < w * h → y < w * h → x ≠ y → place (A ++ B) x ≠ place (A ++ B) y := fun hx hy hxy z => hxy (place_inj R hx hy z)
  have z1 := pn hc hd n1.symm
  have z2 := pn hc hb m1
  have z3 := pn ha hd n2.symm
  have z4 := pn ha hb m2
  have z5 := pn hc ha m3
  have z6 := pn hd hb m4
  have pc := place_rot R hc
  have pd := place_rot R hd
  have pa := place_rot R ha
  have pb := place_rot R hb
  generalize place (A ++ B) c = C at *
  generalize place (A ++ B) d = D at *
  generalize place (A ++ B) a = E at *
  generalize place (A ++ B) b = F at *
  generalize place (B ++ A) c = C' at *
  generalize place (B ++ A) d = D' at *
  generalize place (B ++ A) a = E' at *
  generalize place (B ++ A) b = F' at *
  omega
/-- turned till c is at the bottom -/
def rt (c : Nat) (r : List Nat) : List Nat := r.drop (place r c) ++ r.take (place r c)
theorem rt_at {A B : List Nat} {c : Nat} (h : c ∉ A) : rt c (A ++ c :: B) = c :: B ++ A := by
  have e : place (A ++ c :: B) c = A.length := by
    rcases place_app (A := A) (B := c :: B) (x := c) with ⟨a1, _⟩ | ⟨_, a2⟩
    · exact absurd a1 h
    · rw [a2]
      unfold place
      rw [List.findIdx_cons, beq_self_eq_true]
      rfl
  unfold rt
  rw [e, List.drop_left' rfl, List.take_left' rfl]
theorem rt_back {n : Nat} {r : List Nat} (R : Row n r) {b c : Nat} (hb : r.head? = some b) (hc : c < n) : rt b (rt c r) = r := by
  obtain ⟨A, B, e⟩ := List.append_of_mem (R.mem c hc)
  subst e
  have nd := List.nodup_append.mp R.nd
  have hcA : c ∉ A := fun q => nd.2.2 c q c (List.mem_cons_self ..) rfl
  rw [rt_at hcA]
  cases A with
  | nil =>
    have e : c = b := by simpa using hb
    subst e
    rw [List.append_nil, List.nil_append]
    have := rt_at (A := []) (B := B) (c := c) (by simp)
    rw [List.nil_append, List.append_nil] at this
    exact this
  | cons x A =>
    cases hb
    exact rt_at (fun q => nd.2.2 b (List.mem_cons_self ..) b q rfl)
theorem rt_upon {w h : Nat} (S : Sheet w h) {b c : Nat} (hb : b < w * h) (hc : c < w * h) {r : List Nat} (hr : r ∈ upon w h b) : rt c r ∈ upon w h c := by
  obtain ⟨k, _⟩ := (mem_upon S hb r).mp hr
  rw [mem_upon S hc]
  obtain ⟨A, B, e⟩ := List.append_of_mem (k.1.mem c hc)
  subst e
  have nd := List.nodup_append.mp k.1.nd
  have hcA : c ∉ A := fun q => nd.2.2 c q c (List.mem_cons_self ..) rfl
  rw [rt_at hcA]
  exact ⟨canBe_rot S k, rfl⟩
theorem upon_le {w h : Nat} (S : Sheet w h) {b c : Nat} (hb : b < w * h) (hc : c < w * h) : (upon w h b).length ≤ (upon w h c).length := by
  rw [← List.length_map (f := rt c)]
  refine nodup_le _ _ ?_ fun x hx => ?_
  · refine List.pairwise_map.mpr ((nodup_of_order (upTo_order hb _)).imp_of_mem ?_)
    intro x y hx hy hxy q
    obtain ⟨k1, e1⟩ := (mem_upon S hb x).mp hx
    obtain ⟨k2, e2⟩ := (mem_upon S hb y).mp hy
    exact hxy (by rw [← rt_back k1.1 e1 hc, q, rt_back k2.1 e2 hc])
  · obtain ⟨r, hr, rfl⟩ := List.mem_map.mp hx
    exact rt_upon S hb hc hr
/-- each square is at the bottom of as many rows -/
theorem upon_len {w h : Nat} (S : Sheet w h) {b : Nat} (hb : b < w * h) : (upon w h b).length = (upon w h 0).length :=
  Nat.le_antisymm (upon_le S hb (by omega)) (upon_le S (by omega) hb)
/-- one row that can be: folded to and fro along the rows' lines, then along the columns' -/
def toFro (w h : Nat) : List Nat := (List.range w).flatMap fun x => (List.range h).map fun y => if x % 2 = 0 then w * y + x else w * (h - 1 - y) + x
theorem toFro_ok {w h : Nat} (S : Sheet w h) : isRow (w * h) (toFro w h) = true ∧ (toFro w h).head? = some 0 ∧ ∀ c, c < w * h → atF w h (toFro w h) c = false :=
  by_sheets (P := fun w h => isRow (w * h) (toFro w h) = true ∧ (toFro w h).head? = some 0 ∧ ∀ c, c < w * h → atF w h (toFro w h) c = false) (by decide +kernel) S
theorem upon_pos {w h : Nat} (S : Sheet w h) : 0 < (upon w h 0).length := by
  obtain ⟨h1, h2, h3⟩ := toFro_ok S
  have hp : 0 < w * h := Nat.mul_pos S.w1 S.h1
  exact List.length_pos_of_mem ((mem_upon S hp _).mpr ⟨⟨(isRow_iff _ _).mp h1, h3⟩, h2⟩)

/-! ### how many, which one -/
theorem flat_len {α : Type} {f : Nat → List α} {u : Nat} : ∀ n, (∀ b, b < n → (f b).length = u) → ((List.range n).flatMap f).length = n * u
  | 0, _ => by simp
  | n + 1, h => by
    rw [List.range_succ, List.flatMap_append, List.length_append, flat_len n fun b hb => h b (by omega)]
    simp only [List.flatMap_cons, List.flatMap_nil, List.append_nil]
    rw [h n (by omega), Nat.succ_mul]
theorem flat_get {α : Type} {f : Nat → List α} {u : Nat} (hu : 0 < u) (k : Nat) : ∀ n, (∀ b, b < n → (f b).length = u) → ((List.range n).flatMap f)[k]? = if k / u < n then (f (k / u))[k % u]? else none
  | 0, _ => by simp
  | n + 1, h => by
    have hl := flat_len n fun b hb => h b (by omega : b < n + 1)
    have hd := Nat.div_add_mod k u
    have hm := Nat.mod_lt k hu
    have e1 : k / u < n ↔ k < n * u := Nat.div_lt_iff_lt_mul hu
    have e2 : k / u < n + 1 ↔ k < (n + 1) * u := Nat.div_lt_iff_lt_mul hu
    rw [Nat.succ_mul] at e2
    rw [List.range_succ, List.flatMap_append]
    simp only [List.flatMap_cons, List.flatMap_nil, List.append_nil]
    by_cases q : k < n * u
    · rw [List.getElem?_append_left (by omega), flat_get hu k n fun b hb => h b (by omega), if_pos (e1.mpr q), if_pos (by have := e1.mpr q; omega)]
    · rw [List.getElem?_append_right (by omega), hl]
      by_cases q2 : k < n * u + u
      · have hk : k / u = n := by
          have a1 := e2.mpr q2
          have a2 : ¬ k / u < n := fun z => q (e1.mp z)
          omega
        rw [if_pos (e2.mpr q2), hk]
        rw [hk, Nat.mul_comm] at hd
        have : k % u = k - n * u := by omega
        rw [this]
      · rw [if_neg (fun z => q2 (e2.mp z)), List.getElem?_eq_none (by rw [h n (by omega)]; omega)]
theorem rows_len {w h : Nat} (S : Sheet w h) : (rows w h).length = w * h * (upon w h 0).length := by
  rw [rows_upon S]
  exact flat_len _ fun b hb => upon_len S hb
theorem rows_get {w h : Nat} (S : Sheet w h) (k : Nat) : (rows w h)[k]? = if k / (upon w h 0).length < w * h then (upon w h (k / (upon w h 0).length))[k % (upon w h 0).length]? else none := by
  rw [rows_upon S]
  exact flat_get (upon_pos S) k _ fun b hb => upon_len S hb
theorem find_nodup {α : Type} [BEq α] [LawfulBEq α] {r : α} : ∀ {l : List α} {k : Nat}, l.Nodup → l[k]? = some r → l.findIdx? (fun x => x == r) = some k
  | [], _, _, h => by simp at h
  | a :: l, 0, _, h => by
    simp at h
    subst h
    rw [List.findIdx?_cons]
    simp
  | a :: l, k + 1, hn, h => by
    have hn' := List.nodup_cons.mp hn
    have h' : l[k]? = some r := by simpa using h
    have hne : (a == r) = false := by
      simpa using fun q => hn'.1 (by rw [q]; exact List.mem_of_getElem? h')
    rw [List.findIdx?_cons, hne]
    simp [find_nodup hn'.2 h']
/-- which one a row is -/
theorem rows_find {w h : Nat} (S : Sheet w h) {r : List Nat} {b j : Nat} (hb : b < w * h) (hj : (upon w h b)[j]? = some r) : (rows w h).findIdx? (fun l => l == r) = some (b * (upon w h b).length + j) := by
  refine find_nodup (nodup_of_order (rows_order S)) ?_
  have hu := upon_pos S
  have hlt : j < (upon w h 0).length := by
    rw [← upon_len S hb]
    exact (List.getElem?_eq_some_iff.mp hj).1
  rw [upon_len S hb, rows_get S]
  have e1 : (b * (upon w h 0).length + j) / (upon w h 0).length = b := by
    rw [Nat.mul_comm, Nat.mul_add_div hu, Nat.div_eq_of_lt hlt]
    omega
  have e2 : (b * (upon w h 0).length + j) % (upon w h 0).length = j := by
    rw [Nat.mul_comm, Nat.mul_add_mod, Nat.mod_eq_of_lt hlt]
  rw [e1, e2, if_pos hb]
  exact hj
theorem rows_find_none {w h : Nat} (S : Sheet w h) {r : List Nat} (hr : ¬ canBe w h r) : (rows w h).findIdx? (fun l => l == r) = none := by
  rw [List.findIdx?_eq_none_iff]
  intro x hx
  have := (rows_iff S x).mp hx
  simpa using fun q => hr (by rw [← q]; exact this)
theorem more_len {w h : Nat} : ∀ (l : List (List Nat)), (more w h l).length ≤ l.length * (w * h)
  | [] => by simp [more]
  | r :: l => by
    have ih := more_len (w := w) (h := h) l
    unfold more at ih ⊢
    rw [List.flatMap_cons, List.length_append, List.length_map, List.length_cons, Nat.succ_mul]
    have := List.length_filter_le (fun x => decide (x ∉ r) && lies w h r x) (List.range (w * h))
    rw [List.length_range] at this
    omega
theorem room_left {n : Nat} {r : List Nat} (nd : r.Nodup) (lt : ∀ x ∈ r, x < n) (p : Nat → Bool) : ((List.range n).filter fun x => decide (x ∉ r) && p x).length ≤ n - r.length := by
  have h := nodup_le (((List.range n).filter fun x => decide (x ∉ r) && p x) ++ r) (List.range n) (List.nodup_append.mpr ⟨(range_nodup n).filter _, nd, fun a ha b hb q => ?_⟩) (fun x hx => ?_)
  · rw [List.length_append, List.length_range] at h
    omega
  · have h2 := (List.mem_filter.mp ha).2
    rw [Bool.and_eq_true, decide_eq_true_eq] at h2
    exact h2.1 (q ▸ hb)
  · rcases List.mem_append.mp hx with hx | hx
    · exact (List.mem_filter.mp hx).1
    · exact List.mem_range.mpr (lt x hx)
theorem more_le {w h k : Nat} : ∀ (l : List (List Nat)), (∀ r ∈ l, r.length = k ∧ Good w h r) → (more w h l).length ≤ l.length * (w * h - k)
  | [], _ => by simp [more]
  | r :: l, g => by
    have ih := more_le l fun r hr => g r (List.mem_cons_of_mem _ hr)
    obtain ⟨g1, g2⟩ := g r (List.mem_cons_self ..)
    have := room_left g2.nd g2.lt (lies w h r)
    unfold more at ih ⊢
    rw [List.flatMap_cons, List.length_append, List.length_map, List.length_cons, Nat.succ_mul]
    rw [g1] at this
    omega
def dn : Nat → Nat
  | 0 => 1
  | k + 1 => dn k * (8 - k)
theorem dn_le (k : Nat) : dn k ≤ 40320 := by
  by_cases q : k < 9
  · have : ∀ k, k < 9 → dn k ≤ 40320 := by decide +kernel
    exact this k q
  · have z : ∀ j, dn (9 + j) = 0 := fun j => by
      induction j with
      | zero => decide +kernel
      | succ j ih =>
        show dn (9 + j) * (8 - (9 + j)) = 0
        rw [ih, Nat.zero_mul]
    have e : k = 9 + (k - 9) := by omega
    rw [e, z]
    omega
/-- no more than all that could be -/
theorem upTo_len {w h b : Nat} (S : Sheet w h) (hb : b < w * h) (k : Nat) : (upTo w h b k).length ≤ 40320 := by
  refine Nat.le_trans ?_ (dn_le k)
  induction k with
  | zero => simp [upTo, dn]
  | succ k ih =>
    have m := more_le (w := w) (h := h) (k := k + 1) (upTo w h b k) fun r hr => by
      have := (mem_upTo hb k r).mp hr
      exact ⟨this.1, this.2.2⟩
    have n9 := S.n9
    unfold upTo dn
    exact Nat.le_trans m (Nat.mul_le_mul ih (by omega))
theorem rows_few {w h : Nat} (S : Sheet w h) : (rows w h).length ≤ 362880 := by
  have hp : 0 < w * h := Nat.mul_pos S.w1 S.h1
  have h1 := upTo_len S hp (w * h - 1)
  rw [rows_len S]
  exact Nat.le_trans (Nat.mul_le_mul S.n9 h1) (by decide)
end Os
end
section
set_option Elab.async false
set_option maxRecDepth 100000
namespace Os
open PfPk PfHp PfbSp
/-! ## The rows with square 0 at the bottom, the top put to the bottom again and again -/
def rots (r : List Nat) : List (List Nat) := (List.range r.length).map fun i => r.drop i ++ r.take i
def turned (w h : Nat) : List (List Nat) := (upon w h 0).flatMap rots
theorem mem_rots {r q : List Nat} : q ∈ rots r ↔ ∃ i, i < r.length ∧ q = r.drop i ++ r.take i := by
  unfold rots
  rw [List.mem_map]
  constructor
  · rintro ⟨i, hi, rfl⟩
    exact ⟨i, List.mem_range.mp hi, rfl⟩
  · rintro ⟨i, hi, rfl⟩
    exact ⟨i, List.mem_range.mpr hi, rfl⟩
theorem mem_turned {w h : Nat} (S : Sheet w h) (q : List Nat) : q ∈ turned w h ↔ canBe w h q := by
  have hp : 0 < w * h := Nat.mul_pos S.w1 S.h1
  unfold turned
  rw [List.mem_flatMap]
  constructor
  · rintro ⟨r, hr, hq⟩
    obtain ⟨i, _, rfl⟩ := mem_rots.mp hq
    have k := ((mem_upon S hp r).mp hr).1
    rw [← List.take_append_drop i r] at k
    exact canBe_rot S k
  · intro k
    have h0 : 0 ∈ q := k.1.mem 0 hp
    obtain ⟨A, B, e⟩ := List.append_of_mem h0
    subst e
    have k2 := canBe_rot S k
    refine ⟨0 :: B ++ A, (mem_upon S hp _).mpr ⟨k2, rfl⟩, mem_rots.mpr ?_⟩
    by_cases hA : A = []
    · subst hA
      exact ⟨0, by simp, by simp⟩
    · refine ⟨(0 :: B).length, ?_, ?_⟩
      · rw [List.length_append]
        have := List.length_pos_iff.mpr hA
        omega
      · rw [List.drop_left, List.take_left]
theorem rt_rot {r : List Nat} {i : Nat} (hd : r.head? = some 0) (nd : r.Nodup) : rt 0 (r.drop i ++ r.take i) = r := by
  obtain ⟨r', rfl⟩ : ∃ r', r = 0 :: r' := by
    cases r with
    | nil => cases hd
    | cons x r' =>
      cases hd
      exact ⟨r', rfl⟩
  cases i with
  | zero => 
    have := rt_at (A := []) (B := r') (c := 0) (by simp)
    simpa using this
  | succ i =>
    rw [List.drop_succ_cons, List.take_succ_cons]
    have h0 : 0 ∉ r'.drop i := fun q => (List.nodup_cons.mp nd).1 (List.mem_of_mem_drop q)
    rw [rt_at h0, List.cons_append, List.take_append_drop]
theorem rots_nodup {r : List Nat} (nd : r.Nodup) : (rots r).Nodup := by
  unfold rots
  refine List.Pairwise.map _ (R := fun i j => i ≠ j ∧ i < r.length ∧ j < r.length) ?_ ?_
  · rintro i j ⟨hij, hi, hj⟩ e
    have h1 := congrArg List.head? e
    rw [List.head?_append, List.head?_append, List.head?_drop, List.head?_drop, List.getElem?_eq_getElem hi, List.getElem?_eq_getElem hj] at h1
    have h2 : r[i] = r[j] := by simpa using h1
    exact hij ((List.getElem_inj nd).mp h2)
  · rw [List.pairwise_iff_getElem]
    intro i j hi hj hij
    rw [List.length_range] at hi hj
    rw [List.getElem_range, List.getElem_range]
    exact ⟨by omega, hi, hj⟩
theorem turned_nodup {w h : Nat} (S : Sheet w h) : (turned w h).Nodup := by
  have hp : 0 < w * h := Nat.mul_pos S.w1 S.h1
  have good : ∀ r ∈ upon w h 0, r.head? = some 0 ∧ r.Nodup := fun r hr => by
    have := (mem_upon S hp r).mp hr
    exact ⟨this.2, this.1.1.nd⟩
  unfold turned List.Nodup
  rw [List.pairwise_flatMap]
  refine ⟨fun r hr => rots_nodup (good r hr).2, ?_⟩
  have nd := nodup_of_order (upTo_order hp (w * h - 1))
  refine List.Pairwise.imp_of_mem ?_ nd
  intro a b ha hb hab x hx y hy e
  obtain ⟨i, _, rfl⟩ := mem_rots.mp hx
  obtain ⟨j, _, rfl⟩ := mem_rots.mp hy
  have h1 := rt_rot (i := i) (good a ha).1 (good a ha).2
  have h2 := rt_rot (i := j) (good b hb).1 (good b hb).2
  rw [e, h2] at h1
  exact hab h1.symm
theorem turned_one {w h : Nat} (S : Sheet w h) {m : List (List Nat)} (hp : m.Perm (turned w h)) (hs : m.Pairwise fun a b => before b a = false) : m = rows w h := by
  refine (rows_one S (fun r => ?_) ?_).symm
  · rw [hp.mem_iff]
    exact mem_turned S r
  · have nd : m.Nodup := hp.nodup_iff.mpr (turned_nodup S)
    have both := List.Pairwise.and hs nd
    refine both.imp fun {a b} q => ?_
    rcases before_total a b with e | e | e
    · exact absurd e q.2
    · exact e
    · rw [q.1] at e
      cases e
theorem rots_len (r : List Nat) : (rots r).length = r.length := by
  unfold rots
  rw [List.length_map, List.length_range]
end Os
end
set_option Elab.async false
set_option maxRecDepth 100000
set_option maxHeartbeats 4000000
/-! ## The program's own part: words common to all its defs -/
namespace Os
open PySem PySem.Spec PyProof.Rows L2
abbrev St := L2.St
abbrev vN (n : Nat) : V := .int (n : Int)
def oV : Option Nat → V
  | none => .non
  | some x => vN x
/-- a def that keeps its promise, as its callers see it -/
def DefOk (P : Program) (w : World) (K : PySem.W.Frag) (mg : Str → Option Value) (base : Heap) (k : Nat) (x : Str) (ps : List Str) (sp : Sp) : Prop :=
  ∃ (f : Addr) (fd : FuncData), FnOk P w K mg base CX0 k f fd ps sp ∧ mg x = some (.ref f) ∧ PySem.W.keepIn K (.ref f) = true ∧ Binds K fd ps []
/-- a def of the text as it stands behind the top -/
structure Here (K : PySem.W.Frag) (mg : Str → Option Value) (x : Str) (st : Stmt) (ps : List Str) (f : Addr) (fd : FuncData) : Prop where
  F : Fun K x x st f fd
  b : ∀ us : List Value, us.length = ps.length → bindArgs fd ⟨us, []⟩ = pure (ps.zip us)
  m : mg x = some (.ref f)
theorem here_mk {K : PySem.W.Frag} {h : Heap} {mg : Str → Option Value} (X : K.In h) (G : h.Ns mainGlobals mg) {x : Str} {st : Stmt} {ps : List Str} {f : Addr} {oc : Value} {od an : Option Addr} {osl : Array (Option Value)} {kV doc pm cdv ct : Value}
    (a : PySem.W.nsIn K mainGlobals x = some (some (.ref f))) (l : K.lookup f = some ⟨oc, od, .func (PySem.W.fnOf x x (defArgs st) (defBody st) (defScope st) .none kV doc pm an cdv ct), osl⟩)
    (c : PySem.W.codeIn K cdv x = true) (k : PySem.W.keepIn K (.ref f) = true)
    (b : ∀ (kV doc pm : Value) (an : Option Addr) (cdv ct : Value) (us : List Value), us.length = ps.length → bindArgs (PySem.W.fnOf x x (defArgs st) (defBody st) (defScope st) .none kV doc pm an cdv ct) ⟨us, []⟩ = pure (ps.zip us)) : ∃ fd, Here K mg x st ps f fd :=
  ⟨_, fun_mk (st := st) l c k, b kV doc pm an cdv ct, PySem.W.mg_of X G a⟩
section
variable {P : Program} {w : World} {K : PySem.W.Frag} {mg : Str → Option Value} {base : Heap}
theorem Here.fn {x : Str} {st : Stmt} {ps N : List Str} {k : Nat} {sp : Sp} {f : Addr} {fd : FuncData} (D : Here K mg x st ps f fd) (S : FnScope N ps (defScope st)) (len : ∀ vs H Q E, sp vs H Q E → vs.length = ps.length)
    (hbody : ∀ (cdv : Value) (A : Around) (outer : List Env) (s : Shared) (H : Hp) (vs : List V) (Q : VK) (E : XK), Room k (A.deeper (envOfC x (defScope st) s.heap.objs.size f cdv)) → sp vs H Q E →
      ∃ t, PSs (cxOf CX0 P w K mg base N x (defScope st) f cdv A outer s H E).nox (defBody st) t ∧ t { nx := fun _ H' => Q .non H', rt := Q } (start N vs) H) : FnOk P w K mg base CX0 (k + 1) f fd ps sp :=
  D.F.ok S len hbody
theorem Here.ok {x : Str} {st : Stmt} {ps : List Str} {k : Nat} {sp : Sp} {f : Addr} {fd : FuncData} (D : Here K mg x st ps f fd) (F : FnOk P w K mg base CX0 k f fd ps sp) : DefOk P w K mg base k x ps sp :=
  ⟨f, fd, F, D.m, D.F.kp, .all D.b⟩
end
section
variable {X : Cx} {k : Nat} {x : Str} {ps : List Str} {sp : Sp} {p pos : Pos} {e : Expr} {es : List Expr} {t : TA}
/-- f(e, ..), f a def of the text -/
theorem pc (D : DefOk X.prog X.w X.K X.mg X.base k x ps sp) (hr : Room k X.A) (ha : PA X (e :: es) t) (hg : Gl X x := by rfl) (hdb : (x == ("__debug__" : Str)) = false := by decide)
    (he : starEach (e :: es) X.env = (false, eval e X.env) :: starEach es X.env := by rfl) (hpl : (backTo pos (starEach es X.env)).any (·.1) = false := by rfl) :
    PE X (.Call (.Name x p) (e :: es) [] pos) (tCall sp [] E0 t) := by
  obtain ⟨f, fd, F, m, kp, b⟩ := D
  exact pe_call F hr hg m kp b .nil pass0 ha hdb he hpl
end
/-! ### heaps and lists -/
theorem same_new {H H' : Hp} {p : Addr} {o : HO} (s : Same H H') (hp : H' p = none) : Same H (upd H' p o) := fun b u e => by
  rw [upd_ne (ne_of_none (s b u e) hp)]
  exact s b u e
theorem same_set {H H' : Hp} {p : Addr} {o : HO} (s : Same H H') (hp : H p = none) : Same H (upd H' p o) := fun b u e => by
  rw [upd_ne (ne_of_none e hp)]
  exact s b u e
theorem same_refl (H : Hp) : Same H H := fun _ _ h => h
theorem Same.none {H H' : Hp} (s : Same H H') {p : Addr} (h : H' p = none) : H p = none := s.free h
theorem ixN_nat {n j : Nat} (h : j < n) : ixN n (j : Int) = some j := by
  unfold ixN
  rw [if_pos (Int.natCast_nonneg j), if_pos (by omega)]
  rfl
theorem at_range {α : Type} {n c : Nat} (f : Nat → α) (h : c < n) : ((List.range n).map f)[c]? = some (f c) := by
  rw [List.getElem?_map, List.getElem?_range h]
  rfl
theorem set_range {α : Type} {n x : Nat} {f g : Nat → α} {v : α} (hx : x < n) (hv : g x = v) (h : ∀ c, c < n → c ≠ x → f c = g c) : ((List.range n).map f).set x v = (List.range n).map g := by
  refine List.ext_getElem? fun i => ?_
  by_cases hi : i < n
  · rw [at_range g hi]
    by_cases e : i = x
    · subst e
      rw [List.getElem?_set_self (by rw [List.length_map, List.length_range]; exact hi), hv]
    · rw [List.getElem?_set_ne (fun q => e q.symm), at_range f hi, h i hi e]
  · rw [List.getElem?_eq_none (by rw [List.length_set, List.length_map, List.length_range]; omega), List.getElem?_eq_none (by rw [List.length_map, List.length_range]; omega)]
theorem rep_one {α : Type} (v : α) (n : Nat) : (List.replicate n [v]).flatten = (List.range n).map fun _ => v := by
  induction n with
  | zero => rfl
  | succ n ih =>
    rw [List.replicate_succ, List.flatten_cons, ih, List.range_succ_eq_map, List.map_cons, List.map_map]
    rfl
theorem take_snoc {α : Type} {l : List α} {i : Nat} {x : α} (h : l[i]? = some x) : l.take (i + 1) = l.take i ++ [x] := by
  rw [List.take_add_one, h]
  rfl
theorem get_map {α β : Type} {l : List α} {f : α → β} {i : Nat} {y : β} (h : (l.map f)[i]? = some y) : ∃ x, l[i]? = some x ∧ y = f x := by
  rw [List.getElem?_map] at h
  cases e : l[i]? with
  | none =>
    rw [e] at h
    cases h
  | some x =>
    rw [e] at h
    exact ⟨x, rfl, (Option.some.inj h).symm⟩
theorem small9 {n : Nat} (h : n ≤ 100) : n ≤ sizeLine := Nat.le_of_lt (small1000 (by omega))
theorem small9' {n : Nat} (h : n ≤ 100) : n < sizeLine := small1000 (by omega)
/-- the same end by another name -/
theorem end_bl {Q : VK} {H : Hp} {a b : Bool} (h : Q (.bl a) H) (e : a = b) : Q (.bl b) H := e ▸ h
theorem nd_of {p : Prop} [Decidable p] (h : ¬ decide p = true) : ¬ p := fun q => h (decide_eq_true q)
/-! ### loops -/
theorem for_enum {K : PySem.W.Frag} {a : Addr} {xs : List V} {g : TG} {tb : TS} {D : Ends} {σ : St} {H : Hp} (Pv : Nat → St → Hp → Prop) (h0 : Pv 0 σ H) (hl : ∀ i σ H, i ≤ xs.length → Pv i σ H → SqL K H a xs)
    (hs : ∀ i x σ H T, xs[i]? = some x → Pv i σ H → H T = none → g (.ref T) σ (upd H T (.tup [.int ((i : Nat) : Int), x])) fun σ2 H2 => tb { D with nx := Pv (i + 1), ct := Pv (i + 1), bk := D.nx } σ2 H2) (hd : ∀ σ H, Pv xs.length σ H → D.nx σ H) :
    ∃ W : Nat → Nat → St → Hp → Prop, (∃ m, W 0 m σ H) ∧ ∀ i m σ H, W i m σ H →
      ((Ite K a).stop i H ∧ D.nx σ H) ∨ ((Ite K a).go i H ∧ ∃ N : St → Hp → Prop, (∀ σ' H', N σ' H' → ∃ m', m' < m ∧ W (i + 1) m' σ' H') ∧ ∀ x H', (Ite K a).yld i H x H' → g x σ H' fun σ2 H2 => tb { D with nx := N, ct := N, bk := D.nx } σ2 H2) := by
  refine ⟨fun i m σ H => m = xs.length - i ∧ i ≤ xs.length ∧ Pv i σ H, ⟨xs.length, by simp, Nat.zero_le _, h0⟩, ?_⟩
  rintro i m σ H ⟨rfl, hi, p⟩
  have q := hl i σ H hi p
  by_cases hlt : i < xs.length
  · refine .inr ⟨⟨xs, xs[i], q, by simp [hlt]⟩, Pv (i + 1), fun σ' H' p' => ⟨xs.length - (i + 1), by omega, rfl, hlt, p'⟩, fun x H' y => ?_⟩
    obtain ⟨T, x', e1, hT, e2, y⟩ := y
    subst e1 e2
    exact hs i x' σ _ T (y xs q) p hT
  · have e : i = xs.length := by omega
    subst e
    exact .inl ⟨⟨xs, q, Nat.le_refl _⟩, hd σ H p⟩
/-- over range(b) from 0 on -/
theorem for_range0 {j : Int} {n : Nat} {g : TG} {tb : TS} {D : Ends} {σ : St} {H : Hp} (hj : j.toNat = n) (Pv : Nat → St → Hp → Prop) (h0 : Pv 0 σ H)
    (hs : ∀ i σ H, i < n → Pv i σ H → g (vN i) σ H fun σ2 H2 => tb { D with nx := Pv (i + 1), ct := Pv (i + 1), bk := D.nx } σ2 H2) (hd : ∀ σ H, Pv n σ H → D.nx σ H) :
    ∃ W : Nat → Nat → St → Hp → Prop, (∃ m, W 0 m σ H) ∧ ∀ i m σ H, W i m σ H →
      ((Itr 0 j.toNat).stop i H ∧ D.nx σ H) ∨ ((Itr 0 j.toNat).go i H ∧ ∃ N : St → Hp → Prop, (∀ σ' H', N σ' H' → ∃ m', m' < m ∧ W (i + 1) m' σ' H') ∧ ∀ x H', (Itr 0 j.toNat).yld i H x H' → g x σ H' fun σ2 H2 => tb { D with nx := N, ct := N, bk := D.nx } σ2 H2) := by
  rw [hj]
  refine for_range Pv h0 (fun i σ H hi p => ?_) hd
  rw [Int.zero_add]
  exact hs i σ H hi p
/-- over range(a, b) -/
theorem for_range2 {i0 j : Int} {a n : Nat} {g : TG} {tb : TS} {D : Ends} {σ : St} {H : Hp} (ha : i0 = (a : Int)) (hj : (j - i0).toNat = n) (Pv : Nat → St → Hp → Prop) (h0 : Pv 0 σ H)
    (hs : ∀ i σ H, i < n → Pv i σ H → g (vN (a + i)) σ H fun σ2 H2 => tb { D with nx := Pv (i + 1), ct := Pv (i + 1), bk := D.nx } σ2 H2) (hd : ∀ σ H, Pv n σ H → D.nx σ H) :
    ∃ W : Nat → Nat → St → Hp → Prop, (∃ m, W 0 m σ H) ∧ ∀ i m σ H, W i m σ H →
      ((Itr i0 (j - i0).toNat).stop i H ∧ D.nx σ H) ∨ ((Itr i0 (j - i0).toNat).go i H ∧ ∃ N : St → Hp → Prop, (∀ σ' H', N σ' H' → ∃ m', m' < m ∧ W (i + 1) m' σ' H') ∧ ∀ x H', (Itr i0 (j - i0).toNat).yld i H x H' → g x σ H' fun σ2 H2 => tb { D with nx := N, ct := N, bk := D.nx } σ2 H2) := by
  rw [hj]
  subst ha
  refine for_range Pv h0 (fun i σ H hi p => ?_) hd
  have e : ((a : Int) + (i : Int)) = ((a + i : Nat) : Int) := by omega
  rw [e]
  exact hs i σ H hi p
theorem lc_range0 {j : Int} {n : Nat} {g : TG} {tt : TT} {te : TE} {vs : List Nat} {σ : St} {H1 : Hp} {D : Addr} {Qd : Hp → Prop} (hj : j.toNat = n) (Pv : Nat → Hp → Prop) (h0 : Pv 0 (upd H1 D (.lst [])))
    (hs : ∀ i H, i < n → Pv i H → g (vN i) (wipe σ vs) H fun σ2 H2 => wipe σ2 vs = wipe σ vs ∧ tt σ2 H2 fun b H3 =>
      if b = true then te σ2 H3 fun y H4 => ∃ acc, H4 D = some (.lst acc) ∧ acc.length < sizeLine ∧ Pv (i + 1) (upd H4 D (.lst (acc ++ [y]))) else Pv (i + 1) H3) (hd : ∀ H, Pv n H → Qd H) :
    ∃ W : Nat → Nat → Hp → Prop, (∃ m, W 0 m (upd H1 D (.lst []))) ∧ ∀ i m H, W i m H →
      ((Itr 0 j.toNat).stop i H ∧ Qd H) ∨ ((Itr 0 j.toNat).go i H ∧ ∃ Nx : Hp → Prop, (∀ H', Nx H' → ∃ m', m' < m ∧ W (i + 1) m' H') ∧ ∀ x H', (Itr 0 j.toNat).yld i H x H' → g x (wipe σ vs) H' fun σ2 H2 => wipe σ2 vs = wipe σ vs ∧ tt σ2 H2 fun b H3 =>
        if b = true then te σ2 H3 fun y H4 => ∃ acc, H4 D = some (.lst acc) ∧ acc.length < sizeLine ∧ Nx (upd H4 D (.lst (acc ++ [y]))) else Nx H3) := by
  rw [hj]
  refine lc_range Pv h0 (fun i H hi p => ?_) hd
  rw [Int.zero_add]
  exact hs i H hi p
/-! ### the text's own numbers and the built-ins that it names -/
structure Txt (mg : Str → Option Value) : Prop where
  ma : ∃ t, mg "MOST_ALONG" = some (.int 6 t)
  ms : ∃ t, mg "MOST_SQUARES" = some (.int 9 t)
  an : ∃ t, mg "ANSWERED" = some (.int 0 t)
  no : ∃ t, mg "NOT_OF_THE_SHEET" = some (.int (-1) t)
  len : mg "len" = none
  range : mg "range" = none
  enum : mg "enumerate" = none
theorem txt_mk {K : PySem.W.Frag} {h : Heap} {mg : Str → Option Value} (X : K.In h) (G : h.Ns mainGlobals mg) {t1 t2 t3 t4 : Tok}
    (c1 : PySem.W.nsIn K mainGlobals "MOST_ALONG" = some (some (.int 6 t1))) (c2 : PySem.W.nsIn K mainGlobals "MOST_SQUARES" = some (some (.int 9 t2))) (c3 : PySem.W.nsIn K mainGlobals "ANSWERED" = some (some (.int 0 t3)))
    (c4 : PySem.W.nsIn K mainGlobals "NOT_OF_THE_SHEET" = some (some (.int (-1) t4)))
    (z1 : PySem.W.nsIn K mainGlobals "len" = some none) (z2 : PySem.W.nsIn K mainGlobals "range" = some none) (z3 : PySem.W.nsIn K mainGlobals "enumerate" = some none) : Txt mg :=
  ⟨⟨_, PySem.W.mg_of X G c1⟩, ⟨_, PySem.W.mg_of X G c2⟩, ⟨_, PySem.W.mg_of X G c3⟩, ⟨_, PySem.W.mg_of X G c4⟩, PySem.W.mg_none_of X G z1, PySem.W.mg_none_of X G z2, PySem.W.mg_none_of X G z3⟩
/-- one number of the text's own; one name that the text leaves to the built-ins -/
theorem num_mk {K : PySem.W.Frag} {h : Heap} {mg : Str → Option Value} (X : K.In h) (G : h.Ns mainGlobals mg) {x : Str} {i : Int} {t : Tok} (c : PySem.W.nsIn K mainGlobals x = some (some (.int i t))) : ∃ t, mg x = some (.int i t) := ⟨_, PySem.W.mg_of X G c⟩
theorem none_mk {K : PySem.W.Frag} {h : Heap} {mg : Str → Option Value} (X : K.In h) (G : h.Ns mainGlobals mg) {x : Str} (c : PySem.W.nsIn K mainGlobals x = some none) : mg x = none := PySem.W.mg_none_of X G c
structure Txt2 (mg : Str → Option Value) : Prop where
  mo : ∃ t, mg "MOUNTAIN" = some (.int 1 t)
  va : ∃ t, mg "VALLEY" = some (.int 2 t)
theorem txt2_mk {K : PySem.W.Frag} {h : Heap} {mg : Str → Option Value} (X : K.In h) (G : h.Ns mainGlobals mg) {t1 t2 : Tok} (c1 : PySem.W.nsIn K mainGlobals "MOUNTAIN" = some (some (.int 1 t1))) (c2 : PySem.W.nsIn K mainGlobals "VALLEY" = some (some (.int 2 t2))) : Txt2 mg :=
  ⟨⟨_, PySem.W.mg_of X G c1⟩, ⟨_, PySem.W.mg_of X G c2⟩⟩
/-- a number of the text's own -/
theorem pe_num {X : Cx} {x : Str} {i : Int} {pos : Pos} (hm : ∃ t, X.mg x = some (.int i t)) (hg : Gl X x := by rfl) (hd : (x == ("__debug__" : Str)) = false := by decide) : PE X (.Name x pos) (tC (.int i)) := by
  obtain ⟨t, e⟩ := hm
  exact pe_glob hg e ⟨t, rfl⟩ hd
/-- len(a list) -/
theorem pe_len {X : Cx} {e : Expr} {te : TE} {p pos : Pos} (hm : X.mg "len" = none) (he : PE X e te) (hg : Gl X "len" := by rfl) (hs : starEach [e] X.env = (false, eval e X.env) :: starEach [] X.env := by rfl) (hpl : (backTo pos (starEach [] X.env)).any (·.1) = false := by rfl) :
    PE X (.Call (.Name "len" p) [e] [] pos) (tCB (fun xs H Q => ∃ p ys, xs = [.ref p] ∧ (SqL X.K H p ys ∨ SqT X.K H p ys) ∧ Q (.int ys.length) H) (tCons te tNil)) :=
  pe_callB call_len_seq hg hm PySem.boot_len (pa_cons he pa_nil hs) (by decide) (by decide) hs hpl
/-! ### what is handed in, what is answered -/
theorem map_toNat {ns : List Int} (h : ∀ x ∈ ns, 0 ≤ x) : ns.mapM PfbNe.nat = some (ns.map Int.toNat) := by
  induction ns with
  | nil => rfl
  | cons a l ih =>
    rw [List.mapM_cons, ih fun x hx => h x (List.mem_cons_of_mem _ hx)]
    have e : PfbNe.nat a = some a.toNat := by
      unfold PfbNe.nat
      rw [if_neg (by have := h a (List.mem_cons_self ..); omega)]
    rw [e]
    rfl
theorem nat_nat (w : Nat) : PfbNe.nat (w : Int) = some w := by
  unfold PfbNe.nat
  rw [if_neg (by omega)]
  rfl
theorem nats_back {ns : List Int} (h : ∀ x ∈ ns, 0 ≤ x) : ns.map V.int = (ns.map Int.toNat).map vN := by
  rw [List.map_map]
  refine List.map_congr_left fun x hx => ?_
  show V.int x = V.int (x.toNat : Int)
  rw [Int.toNat_of_nonneg (h x hx)]
theorem cast_nat (r : List Nat) : (r.map fun (x : Nat) => (x : Int)).mapM PfbNe.nat = some r := by
  rw [map_toNat (fun x hx => by
    obtain ⟨c, _, rfl⟩ := List.mem_map.mp hx
    exact Int.natCast_nonneg c), List.map_map]
  refine congrArg some ?_
  conv => rhs; rw [← List.map_id r]
  exact List.map_congr_left fun c _ => rfl
/-- a call with a sheet and a list, by what its answer is -/
def spRowCall (g : Int → Int → List Int → List Int) (K : PySem.W.Frag) : Sp := fun vs H Q _ => ∃ (w h : Nat) (a : Addr) (r : List Nat), vs = [vN w, vN h, .ref a] ∧ w ≤ 4294967295 ∧ h ≤ 4294967295 ∧ SqL K H a (r.map vN) ∧ r.length ≤ 40 ∧ ∀ H' p, H' p = some (.lst ((g w h (r.map fun (x : Nat) => (x : Int))).map V.int)) → Q (.ref p) H'
theorem in_int {z : Int} (h : PySem.W.Codec.inInt 0 4294967295 z = true) : 0 ≤ z ∧ z ≤ 4294967295 := by
  unfold PySem.W.Codec.inInt at h
  simpa using h
theorem row_back {ns : List Int} (h : ∀ x ∈ ns, 0 ≤ x) : (ns.map Int.toNat).map (fun (x : Nat) => (x : Int)) = ns := by
  rw [List.map_map]
  conv => rhs; rw [← List.map_id ns]
  refine List.map_congr_left fun x hx => ?_
  exact Int.toNat_of_nonneg (h x hx)
theorem row_call_of {g : Int → Int → List Int → List Int} {K : PySem.W.Frag} {H : Hp} {xs : List V} {x y : Int} {ns : List Int} {E : XK} (hx : DwAll K H xs [.int x, .int y, .list (ns.map PySem.W.WData.int)])
    (h1 : PySem.W.Codec.inInt 0 4294967295 x = true) (h2 : PySem.W.Codec.inInt 0 4294967295 y = true) (h3 : ns.length ≤ 40) (h4 : ns.all (PySem.W.Codec.inInt 0 4294967295) = true) :
    spRowCall g K xs H (fun v H' => Dw K H' v (.list ((g x y ns).map PySem.W.WData.int))) E := by
  have b1 := in_int h1
  have b2 := in_int h2
  have b4 : ∀ z ∈ ns, 0 ≤ z := fun z hz => (in_int (List.all_eq_true.mp h4 z hz)).1
  cases hx with
  | cons d1 hx =>
    cases hx with
    | cons d2 hx =>
      cases hx with
      | cons d3 hx =>
        cases hx
        cases d1
        cases d2
        cases d3 with
        | lst hs ha =>
          rename_i p _
          have e := ints_dw ns _ ha
          subst e
          refine ⟨x.toNat, y.toNat, p, ns.map Int.toNat, ?_, by omega, by omega, ?_, by rw [List.length_map]; exact h3, fun H' q hq => ?_⟩
          · show [V.int x, V.int y, V.ref p] = [V.int (x.toNat : Int), V.int (y.toNat : Int), V.ref p]
            rw [Int.toNat_of_nonneg b1.1, Int.toNat_of_nonneg b2.1]
          · rw [← nats_back b4]
            exact hs
          · rw [row_back b4, Int.toNat_of_nonneg b1.1, Int.toNat_of_nonneg b2.1] at hq
            exact .lst (SqL.of hq) (dw_ints _)
/-- calls of other shapes -/
def spCall2 (g : Int → Int → List Int) : Sp := fun vs H Q _ => ∃ (w h : Nat), vs = [vN w, vN h] ∧ w ≤ 4294967295 ∧ h ≤ 4294967295 ∧ ∀ H' p, H' p = some (.lst ((g w h).map V.int)) → Q (.ref p) H'
def spCall3 (g : Int → Int → Int → List Int) : Sp := fun vs H Q _ => ∃ (w h k : Nat), vs = [vN w, vN h, vN k] ∧ w ≤ 4294967295 ∧ h ≤ 4294967295 ∧ k ≤ 4294967295 ∧ ∀ H' p, H' p = some (.lst ((g w h k).map V.int)) → Q (.ref p) H'
theorem call2_of {g : Int → Int → List Int} {K : PySem.W.Frag} {H : Hp} {xs : List V} {x y : Int} {E : XK} (hx : DwAll K H xs [.int x, .int y])
    (h1 : PySem.W.Codec.inInt 0 4294967295 x = true) (h2 : PySem.W.Codec.inInt 0 4294967295 y = true) : spCall2 g xs H (fun v H' => Dw K H' v (.list ((g x y).map PySem.W.WData.int))) E := by
  have b1 := in_int h1
  have b2 := in_int h2
  cases hx with
  | cons d1 hx =>
    cases hx with
    | cons d2 hx =>
      cases hx
      cases d1
      cases d2
      refine ⟨x.toNat, y.toNat, ?_, by omega, by omega, fun H' q hq => ?_⟩
      · show [V.int x, V.int y] = [V.int (x.toNat : Int), V.int (y.toNat : Int)]
        rw [Int.toNat_of_nonneg b1.1, Int.toNat_of_nonneg b2.1]
      · rw [Int.toNat_of_nonneg b1.1, Int.toNat_of_nonneg b2.1] at hq
        exact .lst (SqL.of hq) (dw_ints _)
theorem call3_of {g : Int → Int → Int → List Int} {K : PySem.W.Frag} {H : Hp} {xs : List V} {x y z : Int} {E : XK} (hx : DwAll K H xs [.int x, .int y, .int z])
    (h1 : PySem.W.Codec.inInt 0 4294967295 x = true) (h2 : PySem.W.Codec.inInt 0 4294967295 y = true) (h3 : PySem.W.Codec.inInt 0 4294967295 z = true) : spCall3 g xs H (fun v H' => Dw K H' v (.list ((g x y z).map PySem.W.WData.int))) E := by
  have b1 := in_int h1
  have b2 := in_int h2
  have b3 := in_int h3
  cases hx with
  | cons d1 hx =>
    cases hx with
    | cons d2 hx =>
      cases hx with
      | cons d3 hx =>
        cases hx
        cases d1
        cases d2
        cases d3
        refine ⟨x.toNat, y.toNat, z.toNat, ?_, by omega, by omega, by omega, fun H' q hq => ?_⟩
        · show [V.int x, V.int y, V.int z] = [V.int (x.toNat : Int), V.int (y.toNat : Int), V.int (z.toNat : Int)]
          rw [Int.toNat_of_nonneg b1.1, Int.toNat_of_nonneg b2.1, Int.toNat_of_nonneg b3.1]
        · rw [Int.toNat_of_nonneg b1.1, Int.toNat_of_nonneg b2.1, Int.toNat_of_nonneg b3.1] at hq
          exact .lst (SqL.of hq) (dw_ints _)
/-! ### comprehensions of the text -/
def nth (s : Stmt) (j : Nat) : Stmt := (defBody s).getD j (.Pass ⟨0, 0, 0, 0⟩)
def compScope : Stmt → Scope
  | .Assign _ (.ListComp _ _ sc _) _ => sc
  | .Return (some (.ListComp _ _ sc _)) _ => sc
  | _ => { kind := .function, names := [], isGenerator := false, isCoroutine := false }
end Os
/-! ## What the layer lacks: max(xs, default = d), xs.index(row), zip's turns -/
namespace Os
open PySem PySem.Spec PyProof.Rows L2
/-! ### max(xs, default = d) of ints -/
section
variable {prog : Program} {w : World} {A : Around} {E : Value → Shared → Prop}
theorem args_maxD (a d : Value) : argsOk "max" ⟨[a], [(Str.ofString "default", d)]⟩ := by
  unfold argsOk; kernel_rfl
theorem cmp_ints {x m : Int} {tx tm : Tok} {s : Shared} {Q : Value → Shared → Prop} {E : Value → Shared → Prop} (h : Q (.bool (decide (x > m))) s) : wpAny (model prog w) A (richCompare .Gt (.int x tx) (.int m tm)) Q E s :=
  (PySem.CmpOf.ints_gt (prog := prog) (w := w) (A := A) (P := fun (k : Nat) v => ∃ t, v = Value.int (if k = 0 then x else m) t) (fun k => if k = 0 then x else m) (fun _ _ q => q)) 0 1 _ _ s Q E ⟨tx, rfl⟩ ⟨tm, rfl⟩ h
theorem maxD_go {I l B : Addr} {its : List Value} {ns : List Int} {dv : Value} {R : Result → Shared → Prop} (hA : A.handled = none) (hlI : l ≠ I) (hBI : B ≠ I) (hBl : B ≠ l) (rv : Vals (ns.map V.int) its) :
    ∀ (k i : Nat) (s : Shared) (m : Int) (t : Tok) (c : Nat), its.length - i = k → i ≤ its.length → s.heap.IsListIter I l i ∧ s.heap.IsList l its.toArray → m ∈ ns.take i → (∀ y ∈ ns.take i, y ≤ m) →
      s.heap.get? B = some { cls := .type "list", dict := none, data := .seq #[.int m t, .int m t] c, slots := #[] } →
      (∀ m' t' g tk, m' ∈ ns → (∀ y ∈ ns, y ≤ m') → (∀ b o, b ≠ I → b ≠ B → s.heap.get? b = some o → g.get? b = some o) → R (.ok (.ret (.int m' t'))) { s with heap := g, toks := tk }) →
      codeAny (model prog w) A (.builtin "max.loop" ⟨[.ref I, .none, .ref B], [(Str.ofString "default", dv)]⟩) R s := by
  have nm : (toString "max" ++ toString ".loop" : String) = "max.loop" := by decide
  have Wk := PySem.Walks.list (prog := prog) (w := w) (A := A.in1) hA I l hlI its.toArray
  have hsz : its.toArray.size = its.length := List.size_toArray ..
  have hnl : ns.length = its.length := by
    have := rv.length
    rwa [List.length_map] at this
  intro k
  induction k with
  | zero =>
    intro i s m t c hk hi hit hm hmx hB hR
    have ei : i = its.length := by omega
    rw [ei, ← hnl, List.take_length] at hm hmx
    refine codeAny_builtin PySem.F.entry_max_loop ?_; rw [Around.under_plainId PySem.F.plain_max_loop _]
    show wpAny _ A.in1 (seqItems? (.ref B) >>= _) _ _ s
    refine wpAny_bind (wpAny_seqItems hB rfl ?_); show wpAny _ A.in1 (tryCatch (pyNext (.ref I)) _ >>= _) _ _ s
    refine wpAny_bind (wpAny_tryCatch (Wk.done s _ _ (by rw [hsz, ← ei]; exact hit) fun g tk keep => ?_))
    have hB2 := keep B _ (by simpa using hBI) hB; show wpAny _ A.in1 (updateSeq B (fun _ => #[]) >>= _) _ _ _
    refine wpAny_bind (wpAny_updateSeq hB2 rfl (wpAny_bind (wpAny_letGo (wpAny_pure (hR m t _ tk hm hmx ?_)))))
    intro b o bI bB e; exact (Heap.get?_update_other _ _ (Ne.symm bB)).trans (keep b o (by simpa using bI) e)
  | succ k ih =>
    intro i s m t c hk hi hit hm hmx hB hR
    have hlt : i < its.length := by omega
    obtain ⟨x, hx⟩ : ∃ x, ns[i]? = some x := ⟨_, List.getElem?_eq_getElem (by omega)⟩
    obtain ⟨u, hu, tx, eu⟩ := rv.get (i := i) (x := V.int x) (by rw [List.getElem?_map, hx]; rfl)
    have tk1 : ns.take (i + 1) = ns.take i ++ [x] := take_snoc hx
    refine codeAny_builtin PySem.F.entry_max_loop ?_; rw [Around.under_plainId PySem.F.plain_max_loop _]
    show wpAny _ A.in1 (seqItems? (.ref B) >>= _) _ _ s
    refine wpAny_bind (wpAny_seqItems hB rfl ?_); show wpAny _ A.in1 (tryCatch (pyNext (.ref I)) _ >>= _) _ _ s
    refine wpAny_bind (wpAny_tryCatch (Wk.item i s _ _ (by rw [hsz]; exact hlt) hit fun v g tk hv hit2 keep => ?_))
    have ev : v = .int x tx := by
      have hv2 : its[i]? = some v := by simpa using hv
      rw [hu] at hv2
      rw [← Option.some.inj hv2, eu]
    subst ev
    have hB2 := keep B _ (by simpa using hBI) hB; show wpAny _ A.in1 (tryCatch (holding [Value.int x tx, .int x tx] (richCompare .Gt (.int x tx) (.int m t) >>= _)) _ >>= _) _ _ _
    refine wpAny_bind (wpAny_tryCatch (wpAny_holding (wpAny_bind (cmp_ints ?_)))); refine wpAny_bind (wpAny_holding (wpAny_truthy_bool ?_))
    refine wpAny_bind (wpAny_letGo (wpAny_pure ?_)); cases hb : decide (x > m) with
    | true =>
      have gt := of_decide_eq_true hb; simp only [if_true]; refine wpAny_bind ?_
      refine wpAny_updateSeq hB2 rfl (wpAny_bind (wpAny_letGo ?_)); rw [nm]
      refine wpAny_pure ⟨plainId_quiet PySem.F.plain_max_loop _, ih (i + 1) _ x tx _ (by omega) hlt (Wk.frame _ _ _ hit2 fun b hbf o e => ?_) (by rw [tk1]; simp) (fun y hy => ?_) (Heap.get?_update_self _ hB2 rfl) fun m' t' g' tk' h1 h2 keep2 => ?_⟩
      · refine (Heap.get?_update_other _ _ (fun q : B = b => ?_)).trans e
        rw [← q] at hbf
        simp [hBI, hBl] at hbf
      · rw [tk1, List.mem_append, List.mem_singleton] at hy
        rcases hy with hy | rfl
        · have := hmx y hy
          omega
        · exact Int.le_refl _
      · exact hR m' t' g' tk' h1 h2 fun b o bI bB e => keep2 b o bI bB ((Heap.get?_update_other _ _ (Ne.symm bB)).trans (keep b o (by simpa using bI) e))
    | false =>
      have le := of_decide_eq_false hb; simp only [Bool.false_eq_true, if_false]; refine wpAny_bind (wpAny_letGo ?_); rw [nm]
      refine wpAny_pure ⟨plainId_quiet PySem.F.plain_max_loop _, ih (i + 1) _ m t c (by omega) hlt hit2 (by rw [tk1]; exact List.mem_append_left _ hm) (fun y hy => ?_) hB2 fun m' t' g' tk' h1 h2 keep2 => ?_⟩
      · rw [tk1, List.mem_append, List.mem_singleton] at hy
        rcases hy with hy | rfl
        · exact hmx y hy
        · omega
      · exact hR m' t' g' tk' h1 h2 fun b o bI bB e => keep2 b o bI bB (keep b o (by simpa using bI) e)
theorem maxD_raw {s : Shared} {l : Addr} {its : List Value} {ns : List Int} {dv : Value} {Q : Value → Shared → Prop} (hA : A.handled = none) (hl : s.heap.IsList l its.toArray) (rv : Vals (ns.map V.int) its)
    (hQ : ∀ v g tk, ((ns = [] ∧ v = dv) ∨ ∃ m t, v = .int m t ∧ m ∈ ns ∧ ∀ y ∈ ns, y ≤ m) → (∀ b o, s.heap.get? b = some o → g.get? b = some o) → Q v { s with heap := g, toks := tk }) :
    wpAny (model prog w) A (call (.builtin "max") [.ref l] [(Str.ofString "default", dv)]) Q E s := by
  have nm : (toString "max" ++ toString ".loop" : String) = "max.loop" := by decide
  obtain ⟨ol, hol, _⟩ := id hl
  have hll : l < s.heap.objs.size := Heap.lt_size hol
  have hnl : ns.length = its.length := by
    have := rv.length
    rwa [List.length_map] at this
  refine kmk_tree PySem.F.kind_max PySem.F.plain_max PySem.F.entry_max (args_maxD _ _) ?_
  show wpAny _ A.in1 (Builtin.Builtins.bindParams "max" ["key", "default"] 0 ⟨[], [(Str.ofString "default", dv)]⟩ >>= _) _ _ s
  refine wpAny_bind (wpAny_of_eq (show Builtin.Builtins.bindParams "max" ["key", "default"] 0 ⟨[], [(Str.ofString "default", dv)]⟩ = pure [none, some dv] from rfl) ?_)
  refine wpAny_bind (wpAny_pure (wpAny_bind (wpAny_pyIter_list hl (wpAny_bind (wpAny_newList ?_ (Nat.zero_le _))))))
  rw [nm]
  generalize hG : s.heap.push { cls := .type "list_iterator", data := .fields #[.ref l, .int 0 0] } = G
  have hS : G.objs.size = s.heap.objs.size + 1 := by rw [← hG]; exact Heap.size_push ..
  have kG : ∀ b o, s.heap.get? b = some o → (G.push (seqObj "list" #[] 0)).get? b = some o := fun b o e => Heap.get?_push_of_some _ (by rw [← hG]; exact Heap.get?_push_of_some _ e)
  have gI : (G.push (seqObj "list" #[] 0)).IsListIter s.heap.objs.size l 0 := ⟨_, Heap.get?_push_of_some _ (by rw [← hG]; exact Heap.get?_push_size _ rfl), rfl, rfl⟩
  have gL : (G.push (seqObj "list" #[] 0)).IsList l its.toArray := by
    have h1 := hl.push { cls := .type "list_iterator", data := .fields #[.ref l, .int 0 0] }
    rw [hG] at h1
    exact h1.push _
  have gB : (G.push (seqObj "list" #[] 0)).get? G.objs.size = some (seqObj "list" #[] 0) := Heap.get?_push_size _ rfl
  have hlI : l ≠ s.heap.objs.size := Nat.ne_of_lt hll
  have hBI : G.objs.size ≠ s.heap.objs.size := by omega
  have hBl : G.objs.size ≠ l := Nat.ne_of_gt (by rw [hS]; exact Nat.lt_succ_of_lt hll)
  have Wk := PySem.Walks.list (prog := prog) (w := w) (A := A.in1) hA s.heap.objs.size l hlI its.toArray
  have hsz : its.toArray.size = its.length := List.size_toArray ..
  have old : ∀ {g : Heap}, (∀ b o, b ≠ s.heap.objs.size → b ≠ G.objs.size → (G.push (seqObj "list" #[] 0)).get? b = some o → g.get? b = some o) → ∀ b o, s.heap.get? b = some o → g.get? b = some o := fun k b o e => by
    have lt := Heap.lt_size e
    exact k b o (Nat.ne_of_lt lt) (Nat.ne_of_lt (by rw [hS]; exact Nat.lt_succ_of_lt lt)) (kG b o e)
  refine wpAny_pure ⟨plainId_quiet PySem.F.plain_max_loop _, codeAny_builtin PySem.F.entry_max_loop ?_⟩; rw [Around.under_plainId PySem.F.plain_max_loop _]
  show wpAny _ A.in1 (seqItems? (.ref G.objs.size) >>= _) _ _ _
  refine wpAny_bind (wpAny_seqItems gB rfl ?_); show wpAny _ A.in1 (tryCatch (pyNext (.ref s.heap.objs.size)) _ >>= _) _ _ _
  cases ns with
  | nil =>
    have e0 : its.length = 0 := by rw [← hnl]; rfl
    refine wpAny_bind (wpAny_tryCatch (Wk.done _ _ _ (by rw [hsz, e0]; exact ⟨gI, gL⟩) fun g tk keep => ?_))
    refine wpAny_bind (wpAny_rule (wpAny_pure (hQ dv g tk (.inl ⟨rfl, rfl⟩) (old fun b o bI _ e => keep b o (by simpa using bI) e))))
  | cons x ns =>
    obtain ⟨u, hu, tx, eu⟩ := rv.get (i := 0) (x := V.int x) rfl
    have e1 : 0 < its.length := by rw [← hnl]; exact Nat.succ_pos _
    refine wpAny_bind (wpAny_tryCatch (Wk.item 0 _ _ _ (by rw [hsz]; exact e1) ⟨gI, gL⟩ fun v g tk hv hit2 keep => ?_))
    have ev : v = .int x tx := by
      have hv2 : its[0]? = some v := by simpa using hv
      rw [hu] at hv2
      rw [← Option.some.inj hv2, eu]
    subst ev
    have hB2 := keep G.objs.size _ (by simpa using hBI) gB; show wpAny _ A.in1 (updateSeq G.objs.size (fun _ => #[Value.int x tx, .int x tx]) >>= _) _ _ _
    refine wpAny_bind (wpAny_updateSeq hB2 rfl ?_); rw [nm]
    refine wpAny_pure ⟨plainId_quiet PySem.F.plain_max_loop _, maxD_go hA hlI hBI hBl rv _ 1 _ x tx _ rfl e1 (Wk.frame _ _ _ hit2 fun b hbf o e => ?_) (by simp) (fun y hy => ?_) (Heap.get?_update_self _ hB2 rfl) fun m' t' g' tk' h1 h2 keep2 => ?_⟩
    · refine (Heap.get?_update_other _ _ (fun q : G.objs.size = b => ?_)).trans e
      rw [← q] at hbf
      simp [hBI, hBl] at hbf
    · simp at hy
      omega
    · exact hQ _ g' tk' (.inr ⟨m', t', rfl, h1, h2⟩) (old fun b o bI bB e => keep2 b o bI bB ((Heap.get?_update_other _ _ (Ne.symm bB)).trans (keep b o (by simpa using bI) e)))
end
def rMaxD (K : PySem.W.Frag) : List V → List V → Hp → VK → Prop := fun vs ds H Q => ∃ (a : Addr) (ns : List Int) (i : Int), vs = [.ref a] ∧ ds = [.int i] ∧ SqL K H a (ns.map V.int) ∧ ∀ m, ((ns = [] ∧ m = i) ∨ (m ∈ ns ∧ ∀ y ∈ ns, y ≤ m)) → Q (.int m) H
def tMaxD (K : PySem.W.Frag) (te td : TE) : TE := fun σ H Q => tCons te tNil σ H fun vs H1 => tCons td tNil σ H1 fun ds H2 => rMaxD K vs ds H2 Q
theorem pe_maxD {X : Cx} {e e2 : Expr} {te td : TE} {p pos kp : Pos} (hc : X.calm = true) (hm : X.mg "max" = none) (he : PE X e te) (hd : PE X e2 td) (hg : Gl X "max" := by rfl) (hs : starEach [e] X.env = (false, eval e X.env) :: starEach [] X.env := by rfl)
    (hbt : backTo pos (starEach [e] X.env) = (false, eval e X.env) :: backTo pos (starEach [] X.env) := by rfl) (hpl : (backTo pos (starEach [e] X.env)).any (·.1) = false := by rfl) :
    PE X (.Call (.Name "max" p) [e] [⟨some "default", e2, kp⟩] pos) (tMaxD X.K te td) := by
  intro pins s σ H Q I h
  refine wpAny_Call_Name_kw (ld_blt I hg hm boot_max ?_)
  refine callWith_kw (thn ((pa_cons he pa_nil hs) pos pins s σ H _ I h) fun us s1 ⟨vs, H1, I1, r1, q1⟩ => thn ((pk_cons hd pk_nil) pos pins s1 σ H1 _ I1 q1) fun ws s2 ⟨ds, H2, I2, rd, q2⟩ => ?_) hbt hpl
  obtain ⟨a, ns, i, rfl, rfl, hq, q⟩ := q2
  rw [Vals.ref1 r1]
  obtain ⟨d, rfl, t, rfl⟩ := vals1 rd
  obtain ⟨its, rv, pl, _⟩ := I2.list hq
  refine maxD_raw (I2.ok.hd hc) pl.isList rv fun v g tk hv keep => ?_
  rcases hv with ⟨h1, rfl⟩ | ⟨m, t', rfl, h1, h2⟩
  · exact ⟨.int i, H2, I2.kept keep, ⟨_, rfl⟩, q i (.inl ⟨h1, rfl⟩)⟩
  · exact ⟨.int m, H2, I2.kept keep, ⟨_, rfl⟩, q m (.inr ⟨h1, h2⟩)⟩
/-! ### xs.index(row) of a list of rows of ints -/
theorem vals_refs : ∀ {as : List Addr} {us : List Value}, Vals (as.map V.ref) us → us = as.map Value.ref
  | [], _, .nil => rfl
  | a :: as, u :: us, .cons r t => by
    cases r
    rw [vals_refs t]
    rfl
theorem int_map_inj : ∀ {a b : List Int}, a.map V.int = b.map V.int → a = b
  | [], [], _ => rfl
  | [], _ :: _, h => by cases h
  | _ :: _, [], h => by cases h
  | x :: a, y :: b, h => by
    rw [List.map_cons, List.map_cons, List.cons.injEq, V.int.injEq] at h
    rw [h.1, int_map_inj h.2]
def rIndexR (K : PySem.W.Frag) : V → List V → Hp → VK → Prop := fun x xs H Q => ∃ (a b : Addr) (as : List Addr) (l : List (List Int)) (r : List Int) (j : Nat), x = V.ref a ∧ xs = [V.ref b] ∧ SqL K H a (as.map V.ref) ∧ as.length = l.length ∧
  (∀ (i : Nat) (c : Addr) (q : List Int), as[i]? = some c → l[i]? = some q → SqL K H c (q.map V.int)) ∧ SqL K H b (r.map V.int) ∧ l[j]? = some r ∧ (∀ (m : Nat) (q : List Int), m < j → l[m]? = some q → q ≠ r) ∧ Q (.int (j : Nat)) H
theorem mt_indexR {X : Cx} (hu : X.A.units + 70 < cLine) : MtR X "list.index" (rIndexR X.K) := by
  intro pins s σ H x xs v us Q I rx rxs h
  obtain ⟨a, b, as, l, r, j, rfl, rfl, hs, hal, hrows, hb, hj, hno, q⟩ := h
  cases rx
  cases rxs with
  | cons ry rt =>
    cases rt
    cases ry
    obtain ⟨its, rv, ⟨⟨cls, dd, data, sl⟩, n, ho, hc, hdn, hd⟩, hlen⟩ := I.list hs
    simp only at hc hd
    subst hc hd
    obtain ⟨bits, rvb, plb, _⟩ := I.list hb
    have eits := vals_refs rv
    have hits : its.length = as.length := by rw [eits, List.length_map]
    let e : Value → Bool := fun u => @decide (∃ c, u = .ref c ∧ SqL X.K H c (r.map V.int)) (Classical.propDecidable _)
    have key : ∀ (i : Nat) (c : Addr) (q : List Int), as[i]? = some c → l[i]? = some q → e (.ref c) = decide (q = r) := fun i c q h1 h2 => by
      have hc := hrows i c q h1 h2
      have : (∃ c', Value.ref c = .ref c' ∧ SqL X.K H c' (r.map V.int)) ↔ q = r := by
        constructor
        · rintro ⟨c', ec, hc'⟩
          cases ec
          exact int_map_inj (I.list_inj hc hc')
        · rintro rfl
          exact ⟨c, rfl, hc⟩
      rw [Bool.eq_iff_iff]
      exact (@decide_eq_true_iff _ (Classical.propDecidable _)).trans (this.trans decide_eq_true_iff.symm)
    have hjl : j < as.length := by
      rw [hal]
      exact (List.getElem?_eq_some_iff.mp hj).1
    have hsl := sizeLine_eq
    have hvl := rv.length
    have hjs : j < its.toArray.size := by
      rw [List.size_toArray, hits]
      exact hjl
    have at_ : ∀ (m : Nat) (hm : m < its.toArray.size), ∃ c q, as[m]? = some c ∧ l[m]? = some q ∧ its.toArray[m] = .ref c := fun m hm => by
      rw [List.size_toArray] at hm
      have h1 : m < as.length := by omega
      have h2 : m < l.length := by omega
      refine ⟨as[m], l[m], List.getElem?_eq_getElem h1, List.getElem?_eq_getElem h2, ?_⟩
      simp [eits]
    refine call_meets PySem.F.slot_list_index ⟨_, ho, rfl⟩ PySem.F.entry_list_index (PySem.F.args_list_index_2 _ _)
      (SeqAt.list_indexAt a its.toArray n dd sl (.ref b) e j hjs (by rw [List.length_map] at hlen; omega) ?_ ?_) ⟨ho, fun u' hu' => ?_, ?_⟩
    · obtain ⟨c, q, h1, h2, h3⟩ := at_ j hjs
      rw [h3, key j c q h1 h2]
      rw [hj] at h2
      cases h2
      exact decide_eq_true rfl
    · intro m hm hmj
      obtain ⟨c, q, h1, h2, h3⟩ := at_ m hm
      rw [h3, key m c q h1 h2]
      exact decide_eq_false (hno m q hmj h2)
    · obtain ⟨m, hm, em⟩ := Array.mem_iff_getElem.mp hu'
      obtain ⟨c, q, h1, h2, h3⟩ := at_ m hm
      rw [← em, h3, key m c q h1 h2]
      obtain ⟨cits, rvc, plc, _⟩ := I.list (hrows m c q h1 h2)
      exact PySem.W.keq_ints plc.isList rvc.ints plb.isList rvb.ints (by simp only [Around.in1_units]; omega)
    · exact ⟨.int (j : Nat), H, I.tok _, ⟨_, rfl⟩, q⟩
/-! ### zip's turns -/
theorem for_zip {K : PySem.W.Frag} {a b : Addr} {xs ys : List V} {g : TG} {tb : TS} {D : Ends} {σ : St} {H : Hp} (hxy : xs.length = ys.length) (Pv : Nat → St → Hp → Prop) (h0 : Pv 0 σ H) (hl : ∀ i σ H, i ≤ xs.length → Pv i σ H → SqL K H a xs ∧ SqL K H b ys)
    (hs : ∀ i x y σ H T, xs[i]? = some x → ys[i]? = some y → Pv i σ H → H T = none → g (.ref T) σ (upd H T (.tup [x, y])) fun σ2 H2 => tb { D with nx := Pv (i + 1), ct := Pv (i + 1), bk := D.nx } σ2 H2) (hd : ∀ σ H, Pv xs.length σ H → D.nx σ H) :
    ∃ W : Nat → Nat → St → Hp → Prop, (∃ m, W 0 m σ H) ∧ ∀ i m σ H, W i m σ H →
      ((Itz K a b).stop i H ∧ D.nx σ H) ∨ ((Itz K a b).go i H ∧ ∃ N : St → Hp → Prop, (∀ σ' H', N σ' H' → ∃ m', m' < m ∧ W (i + 1) m' σ' H') ∧ ∀ x H', (Itz K a b).yld i H x H' → g x σ H' fun σ2 H2 => tb { D with nx := N, ct := N, bk := D.nx } σ2 H2) := by
  refine ⟨fun i m σ H => m = xs.length - i ∧ i ≤ xs.length ∧ Pv i σ H, ⟨xs.length, by simp, Nat.zero_le _, h0⟩, ?_⟩
  rintro i m σ H ⟨rfl, hi, p⟩
  obtain ⟨q1, q2⟩ := hl i σ H hi p
  by_cases hlt : i < xs.length
  · refine .inr ⟨⟨xs, ys, xs[i], ys[i], q1, q2, by simp [hlt], by rw [List.getElem?_eq_getElem]⟩, Pv (i + 1), fun σ' H' p' => ⟨xs.length - (i + 1), by omega, rfl, hlt, p'⟩, fun x H' y => ?_⟩
    obtain ⟨T, x', y', e1, hT, e2, z1, z2⟩ := y
    subst e1 e2
    exact hs i x' y' σ _ T (z1 xs q1) (z2 ys q2) p hT
  · have e : i = xs.length := by omega
    subst e
    exact .inl ⟨⟨xs, ys, q1, q2, .inl (Nat.le_refl _)⟩, hd σ H p⟩
end Os
section
set_option maxRecDepth 100000
set_option maxHeartbeats 4000000
namespace Os
open PySem PyProof.Rows
/-! ## The sort goes by its comparisons alone: two runs whose comparisons agree go alike -/
structure Mp where
  g : Keyed → Keyed
  kd : SortKind
class PM (α : Type) where
  f : Mp → α → α
instance : PM Nat := ⟨fun _ a => a⟩
instance : PM Bool := ⟨fun _ a => a⟩
instance : PM Unit := ⟨fun _ a => a⟩
instance : PM Keyed := ⟨fun m a => m.g a⟩
instance : PM (Array Keyed) := ⟨fun m a => a.map m.g⟩
instance : PM SortSt := ⟨fun m st => SortSt.mk' m.kd ((arrOf st).map m.g) (pendingOf st) (gallopOf st) (failedOf st)⟩
instance {α β : Type} [PM α] [PM β] : PM (α × β) := ⟨fun m a => (PM.f m a.1, PM.f m a.2)⟩
instance {α : Type} [PM α] : PM (Option α) := ⟨fun m a => a.map (PM.f m)⟩
instance {α : Type} [PM α] : PM (ForInStep α) := ⟨fun m a => match a with | .done b => .done (PM.f m b) | .yield b => .yield (PM.f m b)⟩
theorem pm_nat (m : Mp) (a : Nat) : PM.f m a = a := rfl
theorem pm_bool (m : Mp) (a : Bool) : PM.f m a = a := rfl
theorem pm_unit (m : Mp) (a : Unit) : PM.f m a = a := rfl
theorem pm_key (m : Mp) (a : Keyed) : PM.f m a = m.g a := rfl
theorem pm_arr (m : Mp) (a : Array Keyed) : PM.f m a = a.map m.g := rfl
theorem pm_st (m : Mp) (st : SortSt) : PM.f m st = SortSt.mk' m.kd ((arrOf st).map m.g) (pendingOf st) (gallopOf st) (failedOf st) := rfl
theorem pm_pair {α β : Type} [PM α] [PM β] (m : Mp) (a : α) (b : β) : PM.f m (a, b) = (PM.f m a, PM.f m b) := rfl
theorem pm_none {α : Type} [PM α] (m : Mp) : PM.f m (none : Option α) = none := rfl
theorem pm_some {α : Type} [PM α] (m : Mp) (a : α) : PM.f m (some a) = some (PM.f m a) := rfl
theorem pm_done {α : Type} [PM α] (m : Mp) (a : α) : PM.f m (ForInStep.done a) = .done (PM.f m a) := rfl
theorem pm_yield {α : Type} [PM α] (m : Mp) (a : α) : PM.f m (ForInStep.yield a) = .yield (PM.f m a) := rfl
structure Two where
  M : Model
  M2 : Model
  C : Ctx
  C2 : Ctx
  s : Shared
  s2 : Shared
  mp : Mp
  kd2 : SortKind
def nev : Value → Pos → Shared → Prop := fun _ _ _ => False
structure Sim (D : Two) {α : Type} [PM α] (m n : StateT SortSt Sem α) : Prop where
  run : ∀ (st : SortSt), kindOf st = D.kd2 → ∀ (p q : Pos) (Q : α → SortSt → Pos → Shared → Prop), Sem.wp D.M2 D.C2 (n.run st) (fun r p s => Q r.1 r.2 p s) nev q D.s2 →
    Sem.wp D.M D.C (m.run (PM.f D.mp st)) (fun r _ s' => s' = D.s ∧ ∃ a st' p', r = (PM.f D.mp a, PM.f D.mp st') ∧ kindOf st' = D.kd2 ∧ Q a st' p' D.s2) nev p D.s
/-- the two comparisons agree -/
def Alike (D : Two) : Prop :=
  ∀ (x y : Keyed) (Q : Bool → Pos → Shared → Prop) (E : Value → Pos → Shared → Prop) (p q : Pos), Sem.wp D.M2 D.C2 (keyLt' D.kd2 x.1 y.1) Q E q D.s2 →
    ∃ b p', Q b p' D.s2 ∧ Sem.wp D.M D.C (keyLt' D.mp.kd (D.mp.g x).1 (D.mp.g y).1) (fun r _ s' => s' = D.s ∧ r = b) nev p D.s
section
variable {D : Two} {α β : Type} [PM α] [PM β]
theorem sim_pure {a b : α} (h : a = PM.f D.mp b) : Sim D (pure a) (pure b) := by
  refine ⟨fun st hk p q Q hw => ?_⟩
  rw [StateT.run_pure] at hw ⊢
  exact ⟨rfl, b, st, q, by rw [h], hk, hw⟩
theorem sim_bind {m n : StateT SortSt Sem α} {f k : α → StateT SortSt Sem β} (h : Sim D m n) (h2 : ∀ a, Sim D (f (PM.f D.mp a)) (k a)) : Sim D (m >>= f) (n >>= k) := by
  refine ⟨fun st hk p q Q hw => ?_⟩
  rw [StateT.run_bind, Sem.wp_bind'] at hw ⊢
  refine Sem.wp_mono _ _ _ (fun r p' s' hr => ?_) (fun _ _ _ e => e) _ _ (h.run st hk p q (fun a st' p' s' => Sem.wp D.M2 D.C2 ((k a).run st') (fun r p s => Q r.1 r.2 p s) nev p' s') hw)
  obtain ⟨rfl, a, st', p2, rfl, hk', hq⟩ := hr
  exact (h2 a).run st' hk' p' p2 Q hq
theorem sim_get_bind {f k : SortSt → StateT SortSt Sem β} (h2 : ∀ a, kindOf a = D.kd2 → Sim D (f (PM.f D.mp a)) (k a)) : Sim D (get >>= f) (get >>= k) := by
  refine ⟨fun st hk p q Q hw => ?_⟩
  rw [StateT.run_bind, StateT.run_get] at hw ⊢
  exact (h2 st hk).run st hk p q Q hw
theorem sim_modify {f k : SortSt → SortSt} (h : ∀ st, kindOf st = D.kd2 → kindOf (k st) = D.kd2 ∧ f (PM.f D.mp st) = PM.f D.mp (k st)) : Sim D (modify f : StateT SortSt Sem Unit) (modify k) := by
  refine ⟨fun st hk p q Q hw => ?_⟩
  rw [StateT.run_modify] at hw ⊢
  exact ⟨rfl, (), k st, q, by rw [(h st hk).2], (h st hk).1, hw⟩
theorem sim_set {a b : SortSt} (h : kindOf b = D.kd2 ∧ a = PM.f D.mp b) : Sim D (set a : StateT SortSt Sem PUnit) (set b) := by
  refine ⟨fun st hk p q Q hw => ?_⟩
  rw [StateT.run_set] at hw ⊢
  exact ⟨rfl, (), b, q, by rw [h.2], h.1, hw⟩
theorem sim_rule (t : String) : Sim D (liftM (rule t) : StateT SortSt Sem Unit) (liftM (rule t)) := by
  refine ⟨fun st hk p q Q hw => ?_⟩
  exact ⟨rfl, (), st, q, rfl, hk, hw⟩
theorem sim_bad (t : String) {m : StateT SortSt Sem α} : Sim D m (liftM (unsupported t : Sem α) : StateT SortSt Sem α) := by
  refine ⟨fun st hk p q Q hw => ?_⟩
  exact hw.elim
theorem sim_ite {c d : Prop} [hc : Decidable c] [hd : Decidable d] {m n m2 n2 : StateT SortSt Sem α} (h : c ↔ d) (h1 : d → Sim D m n) (h2 : ¬ d → Sim D m2 n2) : Sim D (if c then m else m2) (if d then n else n2) := by
  by_cases e : d
  · rw [if_pos e, if_pos (h.mpr e)]; exact h1 e
  · rw [if_neg e, if_neg (fun x => e (h.mp x))]; exact h2 e
theorem sim_list {f k : Nat → β → StateT SortSt Sem (ForInStep β)} (h : ∀ i b, Sim D (f i (PM.f D.mp b)) (k i b)) : ∀ (l : List Nat) (b : β), Sim D (forIn l (PM.f D.mp b) f) (forIn l b k)
  | [], b => by rw [List.forIn_nil, List.forIn_nil]; exact sim_pure rfl
  | x :: l, b => by
    rw [List.forIn_cons, List.forIn_cons]
    refine sim_bind (h x b) fun a => ?_
    cases a with
    | done c => exact sim_pure rfl
    | yield c => exact sim_list h l c
theorem sim_for {r t : Std.Legacy.Range} {f k : Nat → β → StateT SortSt Sem (ForInStep β)} {b c : β} (hr : r = t) (hb : b = PM.f D.mp c) (h : ∀ i b, Sim D (f i (PM.f D.mp b)) (k i b)) : Sim D (forIn r b f) (forIn t c k) := by
  subst hr hb
  rw [Std.Legacy.Range.forIn_eq_forIn_range', Std.Legacy.Range.forIn_eq_forIn_range']
  exact sim_list h _ _
theorem sim_lt (hl : Alike D) (x y : Keyed) : Sim D (lt' (D.mp.g x) (D.mp.g y)) (lt' x y) := by
  rw [lt'_eq, lt'_eq]
  refine sim_get_bind fun a ha => ?_
  refine ⟨fun st hk p q Q hw => ?_⟩
  have e1 : kindOf (PM.f D.mp a) = D.mp.kd := rfl
  rw [ha] at hw
  rw [e1]
  have run : ∀ {γ δ : Type} (t : Sem γ) (f : γ → StateT SortSt Sem δ) (st : SortSt), ((liftM t : StateT SortSt Sem γ) >>= f).run st = t >>= fun a => (f a).run st := by
    intro γ δ t f st
    rw [StateT.run_bind]
    show (StateT.lift t).run st >>= _ = _
    rw [StateT.run_lift, bind_assoc]
    rfl
  rw [run, Sem.wp_bind', Sem.wp_attempt] at hw ⊢
  obtain ⟨b, p', hb, hw2⟩ := hl x y _ _ p q hw
  refine Sem.wp_mono _ _ _ (fun r p' s' hr => ?_) (fun _ _ _ e => e.elim) _ _ hw2
  obtain ⟨rfl, rfl⟩ := hr
  exact ⟨rfl, some r, st, _, rfl, hk, hb⟩
theorem sim_elem (arr : Array Keyed) (i : Nat) : Sim D (elem' (arr.map D.mp.g) i) (elem' arr i) := by
  rw [elem'_eq, elem'_eq, Array.getElem?_map]
  cases arr[i]? with
  | none => exact ⟨fun st hk p q Q hw => hw.elim⟩
  | some x => exact sim_pure rfl
theorem sim_ltAt (hl : Alike D) (i j : Nat) : Sim D (ltAt' i j) (ltAt' i j) := by
  rw [ltAt'_eq]
  refine sim_get_bind fun a _ => ?_
  exact sim_bind (sim_elem _ _) fun x => sim_bind (sim_elem _ _) fun y => sim_lt hl x y
end
theorem pm_arrOf (m : Mp) (st : SortSt) : arrOf (PM.f m st) = (arrOf st).map m.g := rfl
theorem pm_pend (m : Mp) (st : SortSt) : pendingOf (PM.f m st) = pendingOf st := rfl
theorem pm_gal (m : Mp) (st : SortSt) : gallopOf (PM.f m st) = gallopOf st := rfl
theorem pm_fail (m : Mp) (st : SortSt) : failedOf (PM.f m st) = failedOf st := rfl
theorem all_pair {α β : Type} {p : α × β → Prop} (h : ∀ a b, p (a, b)) : ∀ x, p x := fun x => h x.1 x.2
theorem all_opt {α : Type} {p : Option α → Prop} (h1 : p none) (h2 : ∀ a, p (some a)) : ∀ x, p x
  | none => h1
  | some a => h2 a
theorem all_unit {p : Unit → Prop} (h : p ()) : ∀ x, p x := fun _ => h
theorem all_key {p : Keyed → Prop} (h : ∀ a, p a) : ∀ x, p x := h
local macro_rules | `(tactic| walk_at "os pm") => `(tactic| (try simp only [pm_nat, pm_bool, pm_unit, pm_key, pm_arr, pm_pair, pm_none, pm_some, pm_done, pm_yield, pm_arrOf, pm_pend, pm_gal, pm_fail, Array.size_map]))
local macro_rules | `(tactic| walk_at "os prim") => `(tactic| first | (with_reducible_and_instances exact sim_ltAt (by assumption) _ _) | (with_reducible_and_instances exact sim_elem _ _) | (with_reducible_and_instances exact sim_lt (by assumption) _ _) | (with_reducible_and_instances exact sim_rule _))
local macro_rules | `(tactic| walk_at "os apart") => `(tactic| repeat' (first | (with_reducible_and_instances refine all_key (fun _ => ?_)) | (with_reducible_and_instances refine all_unit ?_) | (with_reducible_and_instances refine all_opt ?_ ?_) | (with_reducible_and_instances refine all_pair ?_) | intro _))
local macro_rules | `(tactic| walk_at "os eq") => `(tactic| first | (simp only [pm_nat, pm_bool, pm_unit, pm_key, pm_arr, pm_pair, pm_none, pm_some, pm_done, pm_yield, Array.map_push, Array.map_append, Array.map_extract, Array.map_reverse, Array.size_map, List.map_toArray, List.map_cons, List.map_nil, List.map]; done) | rfl)
local macro_rules | `(tactic| walk_at "os iff") => `(tactic| first | exact Iff.rfl | (simp only [Array.size_map]; done))
local macro_rules | `(tactic| walk_at "os one") => `(tactic| first
  | ((with_reducible_and_instances refine sim_pure ?_); walk_at "os eq")
  | (with_reducible_and_instances exact sim_bad _)
  | ((with_reducible_and_instances refine sim_get_bind fun a _ => ?_); walk_at "os pm")
  | ((with_reducible_and_instances refine sim_bind ?h ?n); (case h => walk_at "os prim"); (case' n => (walk_at "os apart" <;> walk_at "os pm")))
  | walk_at "os prim"
  | ((with_reducible_and_instances refine sim_bind (sim_for ?r ?b ?s) ?n); (case r => walk_at "os eq"); (case b => walk_at "os eq"); (case' s => (walk_at "os apart" <;> walk_at "os pm")); (case' n => (walk_at "os apart" <;> walk_at "os pm")))
  | ((with_reducible_and_instances refine sim_ite ?i (fun _ => ?a) (fun _ => ?b)); (case i => walk_at "os iff")))
local macro_rules | `(tactic| walk_at "os all") => `(tactic| repeat' walk_at "os one")
section
variable {D : Two}
theorem map_swaps (g : Keyed → Keyed) (p q : Nat → Nat) : ∀ (l : List Nat) (xs : Array Keyed), l.foldl (fun a k => a.swapIfInBounds (p k) (q k)) (xs.map g) = (l.foldl (fun a k => a.swapIfInBounds (p k) (q k)) xs).map g
  | [], _ => rfl
  | k :: l, xs => by
    rw [List.foldl_cons, List.foldl_cons, ← map_swaps g p q l]
    congr 1
    apply Array.ext_getElem?
    intro m
    rw [Array.getElem?_map]
    by_cases h : p k < xs.size ∧ q k < xs.size
    · rw [getElem?_swapIB (by simpa using h.1) (by simpa using h.2), getElem?_swapIB h.1 h.2]
      simp only [Array.getElem?_map]
      split
      · rfl
      · split <;> rfl
    · have e : ∀ (ys : Array Keyed), ys.size = xs.size → ys.swapIfInBounds (p k) (q k) = ys := fun ys hy => by
        unfold Array.swapIfInBounds
        by_cases h1 : p k < ys.size
        · rw [dif_pos h1, dif_neg (fun h2 => h ⟨by omega, by omega⟩)]
        · rw [dif_neg h1]
      rw [e _ (by simp), e _ rfl, Array.getElem?_map]
theorem sim_rev (i j : Nat) : Sim D (reverseSlice' i j) (reverseSlice' i j) := by
  rw [reverseSlice'_eq]
  exact sim_modify fun st h => ⟨h, by rw [pm_st]; simp only [setArr, mirror]; rw [map_swaps]; rfl⟩
theorem sim_down (i j : Nat) : Sim D (moveDown' i j) (moveDown' i j) := by
  rw [moveDown'_eq]
  exact sim_modify fun st h => ⟨h, by rw [pm_st]; simp only [setArr, bubble]; rw [map_swaps]; rfl⟩
theorem sim_setG (i : Nat) : Sim D (setMinGallop' i) (setMinGallop' i) := by
  rw [setMinGallop'_eq]
  exact sim_modify fun st h => ⟨h, rfl⟩
local macro_rules | `(tactic| walk_at "os prim") => `(tactic| first | exact sim_rev _ _ | exact sim_down _ _ | exact sim_setG _)
theorem sim_count (hl : Alike D) (lo n : Nat) : Sim D (countRun' lo n) (countRun' lo n) := by
  rw [countRun'_eq]
  dsimp only
  walk_at "os all"
theorem sim_binary (hl : Alike D) (lo n ok : Nat) : Sim D (binarySort' lo n ok) (binarySort' lo n ok) := by
  rw [binarySort'_eq]
  dsimp only
  walk_at "os all"
theorem sim_bool_map {m n : StateT SortSt Sem (Option Bool)} (f : Bool → Bool) (h : Sim D m n) : Sim D (m >>= fun x => pure (x.map f)) (n >>= fun x => pure (x.map f)) :=
  sim_bind h fun a => by cases a <;> exact sim_pure rfl
theorem sim_beyond (hl : Alike D) (left : Bool) (key : Keyed) (arr : Array Keyed) (base i : Nat) : Sim D (beyond' left (D.mp.g key) (arr.map D.mp.g) base i) (beyond' left key arr base i) := by
  unfold beyond'
  walk_at "os all"
local macro_rules | `(tactic| walk_at "os prim") => `(tactic| (with_reducible_and_instances exact sim_beyond (by assumption) _ _ _ _ _))
theorem sim_gallop (hl : Alike D) (left : Bool) (key : Keyed) (arr : Array Keyed) (base n hint : Nat) : Sim D (gallop' left (D.mp.g key) (arr.map D.mp.g) base n hint) (gallop' left key arr base n hint) := by
  rw [gallop'_eq, gallop'_eq]
  dsimp only
  walk_at "os all"
local macro_rules | `(tactic| walk_at "os prim") => `(tactic| (with_reducible_and_instances exact sim_gallop (by assumption) _ _ _ _ _ _))
theorem sim_lo (hl : Alike D) (a b : Array Keyed) : Sim D (mergeLo' (a.map D.mp.g) (b.map D.mp.g)) (mergeLo' a b) := by
  rw [mergeLo'_eq, mergeLo'_eq]
  dsimp only
  simp only [Array.size_map]
  walk_at "os all"
theorem sim_hi (hl : Alike D) (a b : Array Keyed) : Sim D (mergeHi' (a.map D.mp.g) (b.map D.mp.g)) (mergeHi' a b) := by
  rw [mergeHi'_eq, mergeHi'_eq]
  dsimp only
  simp only [Array.size_map]
  walk_at "os all"
local macro_rules | `(tactic| walk_at "os prim") => `(tactic| first | (with_reducible_and_instances exact sim_lo (by assumption) _ _) | (with_reducible_and_instances exact sim_hi (by assumption) _ _) | (with_reducible_and_instances exact sim_count (by assumption) _ _) | (with_reducible_and_instances exact sim_binary (by assumption) _ _ _))
theorem map_sets (g : Keyed → Keyed) (k : Nat) : ∀ (l : List (Keyed × Nat)) (xs : Array Keyed), (l.map fun x => (g x.1, x.2)).foldl (fun a x => a.setIfInBounds (k + x.2) x.1) (xs.map g) = (l.foldl (fun a x => a.setIfInBounds (k + x.2) x.1) xs).map g
  | [], _ => rfl
  | x :: l, xs => by
    rw [List.map_cons, List.foldl_cons, List.foldl_cons, ← map_sets g k l, Array.map_setIfInBounds]
theorem zipIdx_map' (g : Keyed → Keyed) (a : Array Keyed) : (a.map g).toList.zipIdx = a.toList.zipIdx.map fun x => (g x.1, x.2) := by
  rw [Array.toList_map, List.zipIdx_map]
  rfl
theorem sim_put (sa : Nat) (m : Array Keyed) : Sim D (modify fun s => setArr s (List.foldl (fun a x => a.setIfInBounds (sa + x.2) x.1) (arrOf s) (m.map D.mp.g).toList.zipIdx) : StateT SortSt Sem Unit)
    (modify fun s => setArr s (List.foldl (fun a x => a.setIfInBounds (sa + x.2) x.1) (arrOf s) m.toList.zipIdx)) := by
  refine sim_modify fun st h => ⟨h, ?_⟩
  rw [zipIdx_map']
  have e := map_sets D.mp.g sa m.toList.zipIdx (arrOf st)
  rw [pm_st, pm_st]
  show SortSt.mk' _ _ _ _ _ = SortSt.mk' _ _ _ _ _
  congr 1
local macro_rules | `(tactic| walk_at "os prim") => `(tactic| (with_reducible_and_instances exact sim_put _ _))
theorem sim_pend (f : Array (Nat × Nat × Nat) → Array (Nat × Nat × Nat)) : Sim D (modify fun s => setPending s (f (pendingOf s)) : StateT SortSt Sem Unit) (modify fun s => setPending s (f (pendingOf s))) :=
  sim_modify fun st h => ⟨h, rfl⟩
theorem sim_setP (st : SortSt) (h : kindOf st = D.kd2) (x : Array (Nat × Nat × Nat)) : Sim D (set (setPending (PM.f D.mp st) x) : StateT SortSt Sem PUnit) (set (setPending st x)) :=
  sim_set ⟨h, rfl⟩
theorem sim_at (hl : Alike D) (i : Nat) : Sim D (mergeAt' i) (mergeAt' i) := by
  rw [mergeAt'_eq]
  refine sim_get_bind fun st hk => ?_
  rw [pm_pend]
  rcases h1 : (pendingOf st)[i]? with _ | ⟨sa, na, pw⟩
  · exact sim_bad _
  rcases h2 : (pendingOf st)[i + 1]? with _ | ⟨sb, nb, pw2⟩
  · exact sim_bad _
  dsimp only
  simp only [pm_arrOf]
  refine sim_bind (sim_setP st hk _) fun a => ?_
  walk_at "os all"
  all_goals (rw [← Array.map_extract, ← Array.map_extract]; walk_at "os all")
local macro_rules | `(tactic| walk_at "os prim") => `(tactic| first | (with_reducible_and_instances exact sim_at (by assumption) _) | (with_reducible_and_instances exact sim_pend _))
theorem sim_push (lo n : Nat) : Sim D (modify fun s => setPending s ((pendingOf s).push (lo, n, 0)) : StateT SortSt Sem Unit) (modify fun s => setPending s ((pendingOf s).push (lo, n, 0))) := sim_modify fun _ h => ⟨h, rfl⟩
theorem sim_pow (pw : Nat) : Sim D (modify fun s => setPending s ((pendingOf s).modify ((pendingOf s).size - 1) fun x => (x.1, x.2.1, pw)) : StateT SortSt Sem Unit) (modify fun s => setPending s ((pendingOf s).modify ((pendingOf s).size - 1) fun x => (x.1, x.2.1, pw))) := sim_modify fun _ h => ⟨h, rfl⟩
local macro_rules | `(tactic| walk_at "os prim") => `(tactic| first | (with_reducible_and_instances exact sim_push _ _) | (with_reducible_and_instances exact sim_pow _))
theorem sim_runs (hl : Alike D) : Sim D sortRuns' sortRuns' := by
  rw [sortRuns'_eq]
  refine sim_get_bind fun st hk => ?_
  rw [pm_arrOf, Array.size_map]
  dsimp only
  walk_at "os all"
  all_goals (rename_i c _; rcases (pendingOf c).back? with _ | ⟨s1, n1, pw⟩ <;> dsimp only <;> walk_at "os all")
  all_goals (rename_i e _; rcases (if (pendingOf e).size > 1 then (pendingOf e)[(pendingOf e).size - 2]? else none) with _ | ⟨x, y, z⟩ <;> dsimp only <;> walk_at "os all")
end
end Os
end
section
set_option maxRecDepth 100000
set_option maxHeartbeats 4000000
namespace Os
open PySem PyProof.Rows PySem.W
/-! ## The sort over comparisons that this state and this place decide -/
theorem countP_lt {α : Type} {p q : α → Bool} (h : ∀ x, p x = true → q x = true) : ∀ {l : List α} {y : α}, y ∈ l → q y = true → p y = false → l.countP p < l.countP q
  | x :: l, y, hm, hq, hp => by
    rw [List.countP_cons, List.countP_cons]
    have mono : l.countP p ≤ l.countP q := List.countP_mono_left fun x _ => h x
    rcases List.mem_cons.mp hm with rfl | hm
    · rw [hq, hp]; simp; omega
    · have ih := countP_lt h hm hq hp
      have := h x
      cases e1 : p x <;> cases e2 : q x <;> simp <;> first | omega | (rw [e1, e2] at this; simp at this)
/-- how many of the keys are below the i-th -/
def rankOf (O : KeyOrd) (k : Nat → O.α) (n i : Nat) : Nat := (List.range n).countP fun m => O.blt (k m) (k i)
theorem rank_lt {O : KeyOrd} {k : Nat → O.α} {n i j : Nat} (hi : i < n) : O.blt (k i) (k j) = decide (rankOf O k n i < rankOf O k n j) := by
  cases h : O.blt (k i) (k j) with
  | true =>
    refine (decide_eq_true ?_).symm
    exact countP_lt (fun m e => O.trans _ _ _ e h) (List.mem_range.mpr hi) h (O.irrefl _)
  | false =>
    refine (decide_eq_false (Nat.not_lt.mpr ?_)).symm
    refine List.countP_mono_left fun m _ e => ?_
    rcases O.negTrans _ (k i) _ e with h' | h'
    · exact h'
    · rw [h] at h'; cases h'
/-- a heap of nothing but tuples of Nones, the i-th of length r i -/
theorem tower (r : Nat → Nat) : ∀ n, ∃ H : Heap, H.objs.size = n ∧ ∀ i, i < n → H.get? i = some (seqObj "tuple" (List.replicate (r i) Value.none).toArray 0)
  | 0 => ⟨{}, rfl, fun i h => absurd h (Nat.not_lt_zero _)⟩
  | n + 1 => by
    obtain ⟨H, hs, hg⟩ := tower r n
    refine ⟨H.push (seqObj "tuple" (List.replicate (r n) Value.none).toArray 0), by rw [Heap.size_push, hs], fun i hi => ?_⟩
    rcases Nat.lt_or_ge i n with h | h
    · exact Heap.get?_push_of_some _ (hg i h)
    · have e : i = H.objs.size := by omega
      rw [e]
      have e2 := Heap.get?_push_size H (o := seqObj "tuple" (List.replicate (r n) Value.none).toArray 0) rfl
      rw [hs] at e2 ⊢
      exact e2
theorem wp_eq_none {M : Model} {C : Ctx} {Q : Bool → Pos → Shared → Prop} {E : Value → Pos → Shared → Prop} {p : Pos} {s : Shared} : Sem.wp M C (eqBool .none .none) Q E p s = Q true p s := rfl
theorem wp_items {M : Model} {C : Ctx} {β : Type} {f : Array Value → Sem β} {Q : β → Pos → Shared → Prop} {E : Value → Pos → Shared → Prop} {p : Pos} {s : Shared} {x : Addr} {xs : Array Value} {c : String}
    (hx : s.heap.get? x = some (seqObj c xs 0)) : Sem.wp M C (Builtin.List.listItems (.ref x) >>= f) Q E p s ↔ Sem.wp M C (f xs) Q E p s := by
  rw [Sem.wp_bind']
  show (∃ o, s.heap.get? x = some o ∧ _) ↔ _
  constructor
  · rintro ⟨o, h, hw⟩
    rw [hx] at h
    cases h
    exact hw
  · intro hw
    exact ⟨_, hx, hw⟩
theorem wp_lex {M : Model} {C : Ctx} {Q : Bool → Pos → Shared → Prop} {E : Value → Pos → Shared → Prop} {p : Pos} {s : Shared} {b : Bool} {x y : Addr} {m n : Nat}
    (hx : s.heap.get? x = some (seqObj "tuple" (List.replicate m Value.none).toArray 0)) (hy : s.heap.get? y = some (seqObj "tuple" (List.replicate n Value.none).toArray 0)) :
    Sem.wp M C (keyLt' (tuples' b) (.ref x) (.ref y)) Q E p s ↔ Q (decide (m < n)) p s := by
  rw [kat_lt_eq, wp_items hx, wp_items hy]
  have loop : ∀ (body : (Value × Value) × Nat → Option Bool × Unit → Sem (ForInStep (Option Bool × Unit))) (_ : ∀ i (k : ForInStep (Option Bool × Unit) → Sem Bool), Sem.wp M C (body ((Value.none, Value.none), i) (none, ()) >>= k) Q E p s ↔ Sem.wp M C (k (.yield (none, ()))) Q E p s)
      (m n i : Nat) (k : Option Bool × Unit → Sem Bool), Sem.wp M C (forIn (((List.replicate m Value.none).zip (List.replicate n Value.none)).zipIdx i) ((none, ()) : Option Bool × Unit) body >>= k) Q E p s ↔ Sem.wp M C (k (none, ())) Q E p s := by
    intro body hb m
    induction m with
    | zero => intro n i k; rfl
    | succ m ih =>
      intro n i k
      cases n with
      | zero => rfl
      | succ n =>
        rw [List.replicate_succ, List.replicate_succ, List.zip_cons_cons, List.zipIdx_cons, List.forIn_cons, bind_assoc, hb]
        exact ih n (i + 1) k
  rw [show (List.replicate m Value.none).toArray.toList = List.replicate m Value.none from rfl, show (List.replicate n Value.none).toArray.toList = List.replicate n Value.none from rfl]
  refine (loop _ (fun i k => ?_) m n 0 _).trans ?_
  · dsimp only
    rw [bind_assoc, Sem.wp_bind', wp_eq_none]
    rfl
  · show Q (decide (_ < _)) p s ↔ _
    simp
theorem items_ref {M : Model} {C : Ctx} {β : Type} {f : Array Value → Sem β} {Q : β → Pos → Shared → Prop} {E : Value → Pos → Shared → Prop} {p : Pos} {s : Shared} {v : Value}
    (h : Sem.wp M C (Builtin.List.listItems v >>= f) Q E p s) : ∃ a o, v = .ref a ∧ s.heap.get? a = some o := by
  cases v with
  | ref a =>
    rw [Sem.wp_bind'] at h
    obtain ⟨o, ho, _⟩ := h
    exact ⟨a, o, rfl, ho⟩
  | _ => exact absurd h (by rw [Sem.wp_bind']; intro h; first | exact h | exact h.elim | (revert h; show ¬ _; simp [Builtin.List.listItems, seqItems?, notAStandIn]; try (split <;> exact id)))
/-- the comparisons, as this place and this state decide them -/
def LtHere (prog : Program) (w : World) (A : Around) (s : Shared) (κ : KeyKind) (kd : SortKind) : Prop :=
  ∀ (x y : Value) (a b : κ.α), κ.keyOf x = some a → κ.keyOf y = some b → wpAny (model prog w) A (keyLt' kd x y) (fun r s' => s' = s ∧ r = κ.blt a b) (fun _ _ => False) s
@[reducible] def numKind (n : Nat) (r : Nat → Nat) : KeyKind where
  α := Nat
  blt a b := decide (a < b)
  irrefl a := by simp
  trans a b c h1 h2 := by simp only [decide_eq_true_eq] at *; omega
  negTrans a b c h := by simp only [decide_eq_true_eq] at *; omega
  total a b h1 h2 := by simp only [decide_eq_false_iff_not] at *; omega
  keyOf v := match v with | .ref i => if i < n then some (r i) else none | _ => none
  dflt := 0
theorem numKind_some {n : Nat} {r : Nat → Nat} {v : Value} {k : Nat} (h : (numKind n r).keyOf v = some k) : ∃ i, v = .ref i ∧ i < n ∧ r i = k := by
  cases v <;> simp only [numKind, reduceCtorEq] at h
  rename_i i
  by_cases hi : i < n
  · rw [if_pos hi] at h
    exact ⟨i, rfl, hi, Option.some.inj h⟩
  · rw [if_neg hi] at h; cases h
theorem runs_here {prog : Program} {w : World} {A : Around} {E : Value → Shared → Prop} {s : Shared} {κ : KeyKind} {kd : SortKind} {vs : List Value} {Q : Unit → SortSt → Prop} (hO : LtHere prog w A s κ kd) (hk : ∀ v, v ∈ vs → ∃ a, κ.keyOf v = some a) (h2 : 2 ≤ vs.length)
    (h : ∀ st' : SortSt, (arrOf st').Perm (pairsOf vs) → failedOf st' = none → SortedToK κ (arrOf st') (pairsOf vs).size → Q () st') : wpS (model prog w) A E s sortRuns' Q (SortSt.mk' kd (pairsOf vs) #[] 7 none) := by
  let k : Nat → κ.α := fun i => (κ.keyOf (vs[i]?.getD Value.none)).getD κ.dflt
  have hkk : ∀ i, i < vs.length → κ.keyOf (vs[i]?.getD Value.none) = some (k i) := fun i hi => by
    have e : vs[i]?.getD Value.none = vs[i] := by rw [List.getElem?_eq_getElem hi]; rfl
    obtain ⟨a, ha⟩ := hk vs[i] (List.getElem_mem hi)
    show _ = some ((κ.keyOf (vs[i]?.getD Value.none)).getD κ.dflt)
    rw [e, ha]; rfl
  let r := rankOf κ.toKeyOrd k vs.length
  obtain ⟨H2, hsz, hget⟩ := tower r vs.length
  let s2 : Shared := { s with heap := H2 }
  let g : Keyed → Keyed := fun x => match x.1 with | .ref i => (vs[i]?.getD Value.none, vs[i]?.getD Value.none) | _ => x
  let a2 : Array Keyed := ((List.range vs.length).map fun i => ((Value.ref i, Value.none) : Keyed)).toArray
  have a2size : a2.size = vs.length := by simp [a2]
  have a2at : ∀ i, i < vs.length → a2[i]? = some (Value.ref i, Value.none) := fun i hi => by simp [a2, hi]
  have a2map : a2.map g = pairsOf vs := by
    apply Array.ext_getElem?
    intro i
    rw [Array.getElem?_map]
    rcases Nat.lt_or_ge i vs.length with hi | hi
    · rw [a2at i hi]
      simp [g, pairsOf, hi]
    · have e1 : a2[i]? = none := Array.getElem?_eq_none (by rw [a2size]; exact hi)
      have e2 : (pairsOf vs)[i]? = none := Array.getElem?_eq_none (by rw [pairsOf_size]; exact hi)
      rw [e1, e2]; rfl
  intro Γ p hΓ
  let D : Two := ⟨model prog w, model prog w, Γ, Γ, s, s2, ⟨g, kd⟩, tuples' true⟩
  have alike : Alike D := by
    intro x y Q' E' p' q' hw
    have hw0 := hw
    show ∃ b p'', _
    rw [show D.kd2 = tuples' true from rfl, kat_lt_eq] at hw0
    obtain ⟨i, o, hi, ho⟩ := items_ref hw0
    have hil : i < vs.length := by rw [← hsz]; exact Heap.lt_size (h := H2) ho
    rw [hi, wp_items (hget i hil : s2.heap.get? i = _)] at hw0
    obtain ⟨j, o', hj, ho'⟩ := items_ref hw0
    have hjl : j < vs.length := by rw [← hsz]; exact Heap.lt_size (h := H2) ho'
    rw [hi, hj] at hw
    refine ⟨_, _, (wp_lex (hget i hil : s2.heap.get? i = _) (hget j hjl : s2.heap.get? j = _)).mp hw, ?_⟩
    have e1 : (D.mp.g x).1 = vs[i]?.getD Value.none := by show (g x).1 = _; simp only [g, hi]
    have e2 : (D.mp.g y).1 = vs[j]?.getD Value.none := by show (g y).1 = _; simp only [g, hj]
    rw [e1, e2]
    refine Sem.wp_mono _ _ _ (fun b _ s' hb => ?_) (fun _ _ _ e => e) _ _ (hO _ _ _ _ (hkk i hil) (hkk j hjl) Γ p' hΓ)
    exact ⟨hb.1, hb.2.trans (rank_lt hil)⟩
  have lt2 : G.LtAt prog w s2 (numKind vs.length r) (tuples' true) := by
    intro A' E' x y a b Q' hx hy hq Γ' p' _
    obtain ⟨i, rfl, hi, rfl⟩ := numKind_some hx
    obtain ⟨j, rfl, hj, rfl⟩ := numKind_some hy
    exact (wp_lex (hget i hi : s2.heap.get? i = _) (hget j hj : s2.heap.get? j = _)).mpr hq
  have keys2 : KeysOf (numKind vs.length r) a2 := by
    intro x hx
    simp only [a2, List.mem_map, List.mem_range] at hx
    obtain ⟨i, hi, rfl⟩ := hx
    exact ⟨r i, by simp [numKind, hi]⟩
  have run2 : wpS (model prog w) A (fun _ _ => False) s2 sortRuns' (fun _ st' => (arrOf st').Perm a2 ∧ failedOf st' = none ∧ SortedToK (numKind vs.length r) (arrOf st') a2.size) (SortSt.mk' (tuples' true) a2 #[] 7 none) :=
    G.wpS_sortRunsSt (a₀ := a2) lt2 keys2 ⟨Array.Perm.refl _, rfl, rfl⟩ rfl (Stable.refl _) (by rw [a2size]; exact h2) fun st' h1 h2 h3 _ => ⟨h1, h2, h3⟩
  have sim := (sim_runs alike).run (SortSt.mk' (tuples' true) a2 #[] 7 none) rfl p p (fun _ st' _ s' => s' = s2 ∧ (arrOf st').Perm a2 ∧ failedOf st' = none ∧ SortedToK (numKind vs.length r) (arrOf st') a2.size) (run2 Γ p hΓ)
  have est : PM.f D.mp (SortSt.mk' (tuples' true) a2 #[] 7 none) = SortSt.mk' kd (pairsOf vs) #[] 7 none := by
    rw [← a2map]; rfl
  rw [est] at sim
  refine Sem.wp_mono _ _ _ (fun x _ s' hx => ?_) (fun _ _ _ e => e.elim) _ _ sim
  obtain ⟨rfl, _, st', _, rfl, _, _, hp, hf, hs⟩ := hx
  refine ⟨rfl, h _ ?_ hf ?_⟩
  · rw [← a2map]
    exact Array.perm_iff_toList_perm.mpr (by rw [pm_arrOf, Array.toList_map, Array.toList_map]; exact (Array.perm_iff_toList_perm.mp hp).map g)
  · intro i j hij hj
    rw [pairsOf_size] at hj
    have hsize : (arrOf st').size = vs.length := by rw [hp.size_eq, a2size]
    have at_ : ∀ m, m < vs.length → ∃ c, c < vs.length ∧ (arrOf st')[m]? = some (Value.ref c, Value.none) := fun m hm => by
      have hm' : m < (arrOf st').size := by omega
      have e := (Array.perm_iff_toList_perm.mp hp).mem_iff.mp (Array.getElem_mem_toList hm')
      simp only [a2, List.mem_map, List.mem_range] at e
      obtain ⟨c, hc, e⟩ := e
      exact ⟨c, hc, by rw [Array.getElem?_eq_getElem hm', ← e]⟩
    obtain ⟨c, hc, ec⟩ := at_ i (by omega)
    obtain ⟨d, hd, ed⟩ := at_ j hj
    have kk : ∀ m c, (arrOf st')[m]? = some (Value.ref c, Value.none) → c < vs.length → KK κ (arrOf (PM.f D.mp st')) m = k c ∧ KK (numKind vs.length r) (arrOf st') m = r c := fun m c e hc => by
      constructor
      · unfold KK
        rw [pm_arrOf, Array.getElem?_map, e]
        show (κ.keyOf (vs[c]?.getD Value.none)).getD κ.dflt = k c
        rfl
      · unfold KK
        rw [e]
        simp [numKind, hc]
    rw [(kk i c ec hc).1, (kk j d ed hd).1]
    have t := hs i j hij (by rw [a2size]; exact hj)
    rw [(kk i c ec hc).2, (kk j d ed hd).2] at t
    show κ.blt (k d) (k c) = false
    rw [rank_lt hd]
    exact t
end Os
end
section
set_option maxRecDepth 100000
set_option maxHeartbeats 4000000
namespace Os
open PySem PyProof.Rows PySem.W
open AutoSeq1 (wpAny_loadPart')
/-! ## xs < ys of two lists of ints -/
abbrev intOrd : KeyOrd := intKind.toKeyOrd
theorem ints_at : ∀ {us : List Value} {ns : List Int} (_ : IntsAre us ns) (i : Nat), (us[i]? = none ∧ ns.drop i = []) ∨ ∃ a t, us[i]? = some (.int a t) ∧ ns.drop i = a :: ns.drop (i + 1)
  | [], _, .nil, i => .inl ⟨by simp, by simp⟩
  | _ :: us, _, .cons n t h, 0 => .inr ⟨n, t, rfl, rfl⟩
  | _ :: us, _, .cons n t h, i + 1 => by
    rcases ints_at h i with ⟨h1, h2⟩ | ⟨a, t, h1, h2⟩
    · exact .inl ⟨h1, h2⟩
    · exact .inr ⟨a, t, h1, h2⟩
theorem lt_ints {prog : Program} {w : World} {A : Around} {x m : Int} {tx tm : Tok} {s : Shared} {Q : Value → Shared → Prop} {E : Value → Shared → Prop} (h : Q (.bool (decide (x < m))) s) : wpAny (model prog w) A (richCompare .Lt (.int x tx) (.int m tm)) Q E s :=
  (PySem.CmpOf.ints_lt (prog := prog) (w := w) (A := A) (P := fun (k : Nat) v => ∃ t, v = Value.int (if k = 0 then x else m) t) (fun k => if k = 0 then x else m) (fun _ _ q => q)) 0 1 _ _ s Q E ⟨tx, rfl⟩ ⟨tm, rfl⟩ h
theorem lt_loop {l b : Addr} {us ws : List Value} {ns ms : List Int} {o o2 : Obj} {n n2 : Nat} (hi : IntsAre us ns) (hi2 : IntsAre ws ms) (hd : o.data = .seq us.toArray n) (hd2 : o2.data = .seq ws.toArray n2) (hL : ns.length = ms.length) :
    ∀ (k i : Nat), us.length - i = k → Meets (Builtin.«list.__eq__.loop» ⟨[.ref l, .ref b, rawInt i, rawInt 0], []⟩)
      (fun _ R s => s.heap.get? l = some o ∧ s.heap.get? b = some o2 ∧ R (.ok (.ret (.bool (lexLt intOrd (ns.drop i) (ms.drop i))))) s) := by
  obtain ⟨c, dd, da, sl⟩ := o
  obtain ⟨c2, dd2, da2, sl2⟩ := o2
  simp only at hd hd2
  subst hd hd2
  have hlen := hi.length
  have hlen2 := hi2.length
  intro k
  induction k with
  | zero =>
    intro i hk prog w A R s h
    obtain ⟨hp, g, d, tk, os⟩ := s
    obtain ⟨hl, hb, h⟩ := h
    wp_walk using wpAny_loadPart' hl, wpAny_loadPart' hb
    have e1 : us.toArray[((i : Nat) : Int).toNat]? = none := by simp; omega
    have e2 : ws.toArray[((i : Nat) : Int).toNat]? = none := by simp; omega
    have d1 : ns.drop i = [] := by simp; omega
    have d2 : ms.drop i = [] := by simp; omega
    rw [d1, d2] at h
    rw [e1, e2]
    wp_walk using wpAny_loadPart' hl, wpAny_loadPart' hb
    have e3 : decide (us.toArray.size < ws.toArray.size) = false := by simp; omega
    show R (.ok (.ret (.bool (decide (us.toArray.size < ws.toArray.size))))) _
    rw [e3]
    exact h
  | succ k ih =>
    intro i hk prog w A R s h
    obtain ⟨hp, g, d, tk, os⟩ := s
    obtain ⟨hl, hb, h⟩ := h
    wp_walk using wpAny_loadPart' hl, wpAny_loadPart' hb
    rcases ints_at hi i with ⟨h1, h2⟩ | ⟨x, t, h1, h2⟩
    · rw [List.getElem?_eq_none_iff] at h1; omega
    rcases ints_at hi2 i with ⟨h3, h4⟩ | ⟨y, u, h3, h4⟩
    · rw [List.getElem?_eq_none_iff] at h3; omega
    have e1 : us.toArray[((i : Nat) : Int).toNat]? = some (.int x t) := by rw [← h1]; simp
    have e2 : ws.toArray[((i : Nat) : Int).toNat]? = some (.int y u) := by rw [← h3]; simp
    have hc : ((i : Int) + 1) = ((i + 1 : Nat) : Int) := by push_cast; rfl
    rw [h2, h4] at h
    rw [e1, e2]
    refine wpAny_bind (wpAny_eqBool_int ?_)
    by_cases hxy : x = y
    · subst hxy
      rw [lex_self] at h
      rw [show (x == x) = true by simp]
      wp_walk
      rw [hc]
      exact ⟨plainId_quiet MeetsSeq3.plain_eq_loop _, codeAny_builtin MeetsSeq3.entry_eq_loop (by
        rw [Around.under_plainId MeetsSeq3.plain_eq_loop _]
        exact ih (i + 1) (by omega) prog w A R _ ⟨hl, hb, h⟩)⟩
    · rw [lex_diff (O := intOrd) hxy] at h
      rw [show (x == y) = false by simpa using hxy]
      wp_walk using wpAny_loadPart' hl, wpAny_loadPart' hb
      rw [e1, e2]
      refine wpAny_bind (lt_ints ?_)
      exact wpAny_pure h
theorem list_lt {l b : Addr} {us ws : List Value} {ns ms : List Int} {o o2 : Obj} {n n2 : Nat} (hi : IntsAre us ns) (hi2 : IntsAre ws ms) (hc : o.cls = .type "list") (hd : o.data = .seq us.toArray n) (hc2 : o2.cls = .type "list") (hd2 : o2.data = .seq ws.toArray n2) (hL : ns.length = ms.length) :
    Meets (Builtin.«list.__lt__» ⟨[.ref l, .ref b], []⟩)
      (fun _ R s => s.heap.get? l = some o ∧ s.heap.get? b = some o2 ∧ R (.ok (.ret (.bool (lexLt intOrd ns ms)))) s) := by
  have loop := lt_loop (l := l) (b := b) (o := o) (o2 := o2) hi hi2 hd hd2 hL
  intro prog w A R s h
  obtain ⟨hl, hb, h⟩ := h
  have hT : s.TypeIs (.ref b) "list" := ⟨o2, hb, hc2⟩
  show wpAny _ A.in1 (isInstance (.ref b) (.type "list") >>= _) _ _ s
  refine wpAny_bind (wpAny_isInstance hT AutoSeq1.sub_list_list ?_)
  simp only [Bool.not_true, Bool.false_eq_true, if_false]
  refine wpAny_pure ⟨plainId_quiet MeetsSeq3.plain_eq_loop _, codeAny_builtin MeetsSeq3.entry_eq_loop ?_⟩
  rw [Around.under_plainId MeetsSeq3.plain_eq_loop _]
  exact loop _ 0 rfl prog w A R s ⟨hl, hb, h⟩
theorem oneLt_rows {prog : Program} {w : World} {A : Around} {E : Value → Shared → Prop} {s : Shared} {l b : Addr} {us ws : List Value} {ns ms : List Int} {Q : Bool → Shared → Prop} (hl : s.heap.IsList l us.toArray) (hb : s.heap.IsList b ws.toArray) (hi : IntsAre us ns) (hi2 : IntsAre ws ms) (hL : ns.length = ms.length)
    (hu : A.units < cLine) (h : Q (lexLt intOrd ns ms) s) : wpAny (model prog w) A (keyLt' oneType' (.ref l) (.ref b)) Q E s := by
  obtain ⟨o, ho, hc, n, hd⟩ := hl
  obtain ⟨o2, ho2, hc2, n2, hd2⟩ := hb
  rw [keyLt'_oneType, oneLt'_eq]
  simp only [if_true]
  refine wpAny_bind (wpAny_cRoomFor hu ?_)
  refine wpAny_bind (wpAny_callSpecialIfBound?_slot (T := "list") ⟨o, ho, hc⟩ F.slot_list_lt ?_)
  refine call_meets F.slot_list_lt ⟨o, ho, hc⟩ F.entry_list_lt (F.args_list_lt_2 _ _) (list_lt hi hi2 hc hd hc2 hd2 hL) ⟨ho, ho2, ?_⟩
  exact wpAny_truthy_bool h
end Os
end
section
set_option maxRecDepth 100000
set_option maxHeartbeats 4000000
namespace Os
open PySem PySem.Spec PyProof.Rows PySem.W L2
/-! ## list.sort and sorted, where the state decides the comparisons -/
section
variable {prog : Program} {w : World} {A : Around} {E : Value → Shared → Prop} {s : Shared}
theorem sort_raw {κ : KeyKind} {kd : SortKind} {a : Addr} {vs : List Value} {n : Nat} {P : PySem.Fin → Shared → Prop} (ho : s.heap.get? a = some (seqObj "list" vs.toArray n)) (hk : ∀ v, v ∈ vs → ∃ x, κ.keyOf v = some x)
    (hO : LtHere prog w A { s with heap := G.sortHeap6 s.heap a vs } κ kd) (hkk : 2 ≤ vs.length → wpAny (model prog w) A (keyKind' vs.toArray) (fun c s' => s' = { s with heap := G.sortHeap6 s.heap a vs } ∧ c = kd) (fun _ _ => False) { s with heap := G.sortHeap6 s.heap a vs })
    (hL : vs.length ≤ sizeLine) (h : ∀ st' : SortSt, (arrOf st').Perm (pairsOf vs) → SortedToK κ (arrOf st') (pairsOf vs).size → P (.done (.ret .none)) { s with heap := sortedHeap s.heap a vs ((arrOf st').map (·.2)) }) :
    wpAny (model prog w) A (Builtin.«list.sort» ⟨[.ref a], []⟩) P E s := by
  have hL2 : vs.length ≤ 16777216 := by rw [← sizeLine_eq]; exact hL
  have lt : a < s.heap.objs.size := Heap.lt_size ho
  obtain ⟨e1, g1⟩ : ∃ e1, (s.heap.update a (Obj.mapSeq fun _ => #[])).get? a = some (seqObj "list" #[] e1) := ⟨_, get?_update_seq ho (fun _ => #[])⟩
  have g6 : (G.sortHeap6 s.heap a vs).get? a = some (seqObj "list" #[] e1) := by
    unfold G.sortHeap6
    exact Heap.get?_push_of_some _ (Heap.get?_push_of_some _ g1)
  rw [list_sort_plain]
  refine wpAny_bind (listItems_at ho rfl (wpAny_bind (listUpdate_at ho rfl (wpAny_bind (seqEpoch_at g1 rfl (wpAny_bind (wpAny_newTuple (wpAny_bind (wpAny_newList (wpAny_holding ?_))))))))))
  show wpAny (model prog w) A _ P E { s with heap := G.sortHeap6 s.heap a vs }
  dsimp only
  have hz : vs.toArray.size = vs.length := List.size_toArray ..
  by_cases h2 : vs.toArray.size < 2
  · simp only [h2, if_true]
    refine wpAny_bind (wpAny_pure ?_)
    rw [StateT.run_pure]
    refine wpAny_bind (wpAny_pure ?_)
    dsimp only
    refine wpAny_bind (seqEpoch_at g6 rfl (wpAny_bind (listUpdate_at g6 rfl ?_ (hsz2 := by
      rw [Array.size_map]
      show (pairsOf vs).size ≤ _
      rw [pairsOf_size, sizeLine_eq]
      omega))))
    simp only [bne_self_eq_false, Bool.false_eq_true, if_false]
    refine wpAny_pure (h (SortSt.mk' general' (vs.toArray.zip vs.toArray) #[] 7 none) (Array.Perm.refl _) fun i j hij hj => ?_)
    rw [pairsOf_size] at hj
    have e : i = j := by omega
    rw [e]
    exact KeyOrd.kle_refl _
  · simp only [h2, if_false]
    have h3 : 2 ≤ vs.length := by omega
    refine wpAny_bind (wpAny_mono (hkk h3) (fun c s' hc => ?_) fun _ _ e => e.elim)
    obtain ⟨rfl, rfl⟩ := hc
    have run := runs_here (E := E) (Q := fun _ st' => (arrOf st').Perm (pairsOf vs) ∧ failedOf st' = none ∧ SortedToK κ (arrOf st') (pairsOf vs).size) hO hk h3 fun st' a1 a2 a3 => ⟨a1, a2, a3⟩
    refine wpAny_bind (wpAny_mono run (fun r s' hr => ?_) fun _ _ e => e)
    obtain ⟨⟨⟩, st'⟩ := r
    obtain ⟨rfl, hp, hf, hs⟩ := hr
    dsimp only
    refine wpAny_bind (seqEpoch_at g6 rfl (wpAny_bind (listUpdate_at g6 rfl ?_ (hsz2 := by
      rw [Array.size_map, hp.size_eq, pairsOf_size, sizeLine_eq]
      omega))))
    rw [hf]
    simp only [bne_self_eq_false, Bool.false_eq_true, if_false]
    exact wpAny_pure (h st' hp hs)
/-- what is collected stands in a new list; that is sorted -/
theorem sorted_raw {κ : KeyKind} {kd : SortKind} {v : Value} {vs : List Value} {Q : Value → Shared → Prop} (hk : ∀ v, v ∈ vs → ∃ x, κ.keyOf v = some x) (hL : vs.length ≤ sizeLine)
    (hc : ∀ (A' : Around) (Q' : List Value → Shared → Prop) (E' : Value → Shared → Prop), A'.handled = A.handled → (∀ (h' : Heap) (tk : Tok), s.heap.objs.size ≤ h'.objs.size → (∀ b o, s.heap.get? b = some o → h'.get? b = some o) → Q' vs { s with heap := h', toks := tk }) → wpAny (model prog w) A' (collect v) Q' E' s)
    (hO : ∀ s2 : Shared, (∀ b o, s.heap.get? b = some o → s2.heap.get? b = some o) → LtHere prog w A.in1.in1 s2 κ kd)
    (hkk : 2 ≤ vs.length → ∀ s2 : Shared, (∀ b o, s.heap.get? b = some o → s2.heap.get? b = some o) → wpAny (model prog w) A.in1.in1 (keyKind' vs.toArray) (fun c s' => s' = s2 ∧ c = kd) (fun _ _ => False) s2)
    (h : ∀ (st' : SortSt) (h' : Heap) (tk : Tok) (e : Nat) (p : Addr), (arrOf st').Perm (pairsOf vs) → SortedToK κ (arrOf st') (pairsOf vs).size → (∀ b o, s.heap.get? b = some o → h'.get? b = some o) → s.heap.objs.size ≤ p →
      h'.get? p = some (seqObj "list" ((arrOf st').map (·.2)) e) → Q (.ref p) { s with heap := h', toks := tk }) :
    wpAny (model prog w) A (call (.builtin "sorted") [v]) Q E s := by
  refine Calls.call_function_entry kind_sorted plain_sorted entry_sorted (args_sorted1 _) ?_
  unfold Builtin.«sorted»
  refine wpAny_bind (m := checkCount "sorted" 1 1 _) (wpAny_pure (wpAny_bind (hc _ _ _ rfl fun h1 tk hle k1 => wpAny_bind (wpAny_newList ?_))))
  have hl0 : (h1.push (seqObj "list" vs.toArray 0)).get? h1.objs.size = some (seqObj "list" vs.toArray 0) := Heap.get?_push_size _ rfl
  have k6 : ∀ b o, s.heap.get? b = some o → (G.sortHeap6 (h1.push (seqObj "list" vs.toArray 0)) h1.objs.size vs).get? b = some o := fun b o e => by
    have ne : b ≠ h1.objs.size := Nat.ne_of_lt (Nat.lt_of_lt_of_le (Heap.lt_size e) hle)
    exact Heap.get?_push_of_some _ (Heap.get?_push_of_some _ ((Heap.get?_update_ne _ _ _ _ ne).trans (Heap.get?_push_of_some _ (k1 b o e))))
  refine wpAny_bind (wpAny_holding (wpAny_call_entry slot_list_sort ⟨_, hl0, rfl⟩ entry_list_sort (sort_raw (κ := κ) (kd := kd) hl0 hk (hO _ k6) (fun h2 => hkk h2 _ k6) hL fun st' a1 a2 => ⟨_, rfl, ?_⟩) (args_list_sort _)))
  obtain ⟨e, he⟩ := sortedHeap_at (vs := vs) (out := (arrOf st').map (·.2)) hl0
  refine wpAny_pure ⟨_, rfl, h st' _ tk e h1.objs.size a1 a2 (fun b o q => ?_) hle he⟩
  have lt := Heap.lt_size q
  have q1 := Heap.get?_push_of_some (seqObj "list" vs.toArray 0) (k1 b o q)
  rw [sortedHeap_old (Nat.ne_of_lt (Nat.lt_of_lt_of_le lt hle)) (Heap.lt_size q1)]
  exact q1
end
/-! ### sorted(rows), each row a list of numbers -/
@[reducible] def rowKind (as : List Addr) (row : Addr → List Nat) : KeyKind where
  toKeyOrd := listOrd intOrd
  keyOf v := match v with | .ref c => if c ∈ as then some ((row c).map fun (x : Nat) => (x : Int)) else none | _ => none
  dflt := []
theorem rowKind_some {as : List Addr} {row : Addr → List Nat} {v : Value} {k : List Int} (h : (rowKind as row).keyOf v = some k) : ∃ c, v = .ref c ∧ c ∈ as ∧ k = (row c).map fun (x : Nat) => (x : Int) := by
  cases v <;> simp only [rowKind, reduceCtorEq] at h
  rename_i c
  by_cases hc : c ∈ as
  · rw [if_pos hc] at h
    exact ⟨c, rfl, hc, (Option.some.inj h).symm⟩
  · rw [if_neg hc] at h
    cases h
/-- y is not below x -/
def notBelow (x y : List Nat) : Prop := lexLt intOrd (y.map fun (c : Nat) => (c : Int)) (x.map fun (c : Nat) => (c : Int)) = false
theorem out_rows {as : List Addr} {row : Addr → List Nat} {arr : Array Keyed} (hp : arr.Perm (pairsOf (as.map Value.ref))) (hs : SortedToK (rowKind as row) arr (pairsOf (as.map Value.ref)).size) :
    ∃ bs : List Addr, bs.Perm as ∧ (bs.map row).Pairwise notBelow ∧ (arr.map (·.2)).toList = bs.map Value.ref := by
  have hp2 := Array.perm_iff_toList_perm.mp hp
  rw [pairsOf_toList] at hp2
  have mem : ∀ x ∈ arr.toList, ∃ c, c ∈ as ∧ x = (Value.ref c, Value.ref c) := fun x hx => by
    have h1 := hp2.mem_iff.mp hx
    obtain ⟨e1, e2⟩ := mem_zip_self h1
    obtain ⟨c, hc, e3⟩ := List.mem_map.mp e2
    exact ⟨c, hc, by rw [Prod.ext_iff]; exact ⟨e3.symm, by rw [← e1]; exact e3.symm⟩⟩
  let ad : Keyed → Addr := fun x => match x.1 with | .ref c => c | _ => 0
  have sizes : arr.size = as.length := by rw [hp.size_eq, pairsOf_size, List.length_map]
  refine ⟨arr.toList.map ad, ?_, ?_, ?_⟩
  · have h1 := hp2.map ad
    have h2 : ((as.map Value.ref).zip (as.map Value.ref)).map ad = as := by
      clear hp hs hp2 mem sizes h1
      induction as with
      | nil => rfl
      | cons c as ih =>
        rw [List.map_cons, List.zip_cons_cons, List.map_cons]
        exact congrArg (c :: ·) ih
    rw [h2] at h1
    exact h1
  · rw [List.map_map, List.pairwise_map, List.pairwise_iff_getElem]
    intro i j hi hj hij
    rw [Array.length_toList] at hi hj
    have t := hs i j (Nat.le_of_lt hij) (by rw [pairsOf_size, List.length_map, ← sizes]; exact hj)
    have kk : ∀ m (hm : m < arr.size), KK (rowKind as row) arr m = (row (ad arr[m])).map fun (x : Nat) => (x : Int) := fun m hm => by
      obtain ⟨c, hc, e⟩ := mem arr[m] (Array.getElem_mem_toList hm)
      unfold KK
      rw [Array.getElem?_eq_getElem hm]
      dsimp only
      rw [e]
      simp only [rowKind, ad, if_pos hc]
      rfl
    rw [kk i hi, kk j hj] at t
    exact t
  · rw [Array.toList_map, List.map_map]
    refine List.map_congr_left fun x hx => ?_
    obtain ⟨c, _, rfl⟩ := mem x hx
    rfl
theorem vals_refs_of : ∀ (as : List Addr), Vals (as.map V.ref) (as.map Value.ref)
  | [] => .nil
  | _ :: as => .cons rfl (vals_refs_of as)
def rSortedR (K : PySem.W.Frag) : List V → Hp → VK → Prop := fun vs H Q => ∃ (a : Addr) (as : List Addr) (row : Addr → List Nat) (L : Nat), vs = [V.ref a] ∧ SqL K H a (as.map V.ref) ∧ (∀ c ∈ as, SqL K H c ((row c).map vN) ∧ (row c).length = L) ∧
  ∀ (bs : List Addr) (p : Addr), bs.Perm as → (bs.map row).Pairwise notBelow → H p = none → Q (.ref p) (upd H p (.lst (bs.map V.ref)))
theorem cr_sortedR {X : Cx} (hu : X.A.units + 70 < cLine) : CallR X (.builtin "sorted") (rSortedR X.K) := by
  intro pins s σ H vs us Q I r h
  obtain ⟨a, as, row, L, rfl, hs, hrow, q⟩ := h
  obtain ⟨its, rv, hl, hlen⟩ := I.list hs
  have eits := vals_refs rv
  subst eits
  rw [Vals.ref1 r]
  have hlen2 : as.length ≤ sizeLine := by
    rw [List.length_map] at hlen
    exact hlen
  have intRow : ∀ c ∈ as, ∃ us : List Value, s.heap.IsList c us.toArray ∧ IntsAre us ((row c).map fun (x : Nat) => (x : Int)) := fun c hc => by
    obtain ⟨us, rv, pl, _⟩ := I.list (hrow c hc).1
    refine ⟨us, pl.isList, ?_⟩
    have e : (row c).map vN = ((row c).map fun (x : Nat) => (x : Int)).map V.int := by
      rw [List.map_map]
      rfl
    rw [e] at rv
    exact rv.ints
  have keepL : ∀ {s2 : Shared} (_ : ∀ b o, s.heap.get? b = some o → s2.heap.get? b = some o) {c : Addr} {us : Array Value}, s.heap.IsList c us → s2.heap.IsList c us := fun k c us x => by
    obtain ⟨o, ho, z⟩ := x
    exact ⟨o, k _ _ ho, z⟩
  refine sorted_raw (κ := rowKind as row) (kd := oneType') (vs := as.map Value.ref) (fun v hv => ?_) (by rw [List.length_map]; exact hlen2) (fun A' Q' E' _ hq => ?_) (fun s2 k => ?_) (fun h2 s2 k => ?_) (fun st' h' tk e p hp hst keep hle hat => ?_)
  · obtain ⟨c, hc, rfl⟩ := List.mem_map.mp hv
    exact ⟨_, if_pos hc⟩
  · refine collect_list hl.isList (hq _ s.toks ?_ ?_) (by rw [List.length_map]; exact hlen2)
    · rw [Heap.size_update, Heap.size_push]
      exact Nat.le_succ _
    · intro b o e
      exact (Heap.get?_update_ne _ _ _ _ (Nat.ne_of_lt (Heap.lt_size e))).trans (Heap.get?_push_of_some _ e)
  · intro x y kx ky hx hy
    obtain ⟨c, rfl, hc, rfl⟩ := rowKind_some hx
    obtain ⟨d, rfl, hd, rfl⟩ := rowKind_some hy
    obtain ⟨u1, l1, i1⟩ := intRow c hc
    obtain ⟨u2, l2, i2⟩ := intRow d hd
    exact oneLt_rows (keepL k l1) (keepL k l2) i1 i2 (by rw [List.length_map, List.length_map, (hrow c hc).2, (hrow d hd).2]) (by simp only [Around.in1_units]; omega) ⟨rfl, rfl⟩
  · refine kas_kind (T := Value.type "list") h2 (fun v hv => ?_) (by decide) (by decide) ⟨rfl, rfl⟩
    obtain ⟨c, hc, rfl⟩ := List.mem_map.mp hv
    obtain ⟨u1, l1, i1⟩ := intRow c hc
    obtain ⟨o, ho, hcl, _⟩ := keepL k l1
    rw [← hcl]
    exact (Looks.ld ho).andThen .now
  · obtain ⟨bs, b1, b2, b3⟩ := out_rows hp hst
    have e2 : (arrOf st').map (·.2) = (bs.map Value.ref).toArray := Array.toList_inj.mp (by rw [b3])
    rw [e2] at hat
    exact ⟨.ref p, upd H p (.lst (bs.map V.ref)), I.laid (t' := tk) keep hle ⟨by rw [List.length_map, b1.length_eq]; exact hlen2, _, e, vals_refs_of bs, hat⟩, rfl, q bs p b1 b2 (I.hok.fresh hle)⟩
theorem lex_before : ∀ (a b : List Nat), lexLt intOrd (a.map fun (c : Nat) => (c : Int)) (b.map fun (c : Nat) => (c : Int)) = PfHp.before a b
  | [], [] => rfl
  | [], _ :: _ => rfl
  | _ :: _, [] => rfl
  | x :: a, y :: b => by
    rw [List.map_cons, List.map_cons, lex_cons, lex_before a b]
    show (decide ((x : Int) < (y : Int)) || (!decide ((y : Int) < (x : Int)) && PfHp.before a b)) = (decide (x < y) || (x == y && PfHp.before a b))
    rcases Nat.lt_trichotomy x y with h | h | h
    · rw [decide_eq_true (show (x : Int) < (y : Int) by omega), decide_eq_true h]
      rfl
    · subst h
      rw [decide_eq_false (show ¬ (x : Int) < (x : Int) by omega), decide_eq_false (show ¬ x < x by omega), beq_self_eq_true]
      rfl
    · rw [decide_eq_false (show ¬ (x : Int) < (y : Int) by omega), decide_eq_false (show ¬ x < y by omega), decide_eq_true (show (y : Int) < (x : Int) by omega), beq_eq_false_iff_ne.mpr (show x ≠ y by omega)]
      rfl
theorem notBelow_iff (x y : List Nat) : notBelow x y ↔ PfHp.before y x = false := by
  unfold notBelow
  rw [lex_before]
/-- the row of numbers that stands at an address -/
def rowHere (H : Hp) (c : Addr) : List Nat := match H c with
  | some (.lst xs) => xs.map fun v => match v with | .int i => i.toNat | _ => 0
  | some (.tup xs) => xs.map fun v => match v with | .int i => i.toNat | _ => 0
  | _ => []
theorem rowNat (r : List Nat) : ((r.map vN).map fun v => match v with | V.int i => i.toNat | _ => 0) = r := by
  rw [List.map_map]
  conv => rhs; rw [← List.map_id r]
  exact List.map_congr_left fun x _ => rfl
theorem rowHere_lst {H : Hp} {c : Addr} {r : List Nat} (h : H c = some (.lst (r.map vN))) : rowHere H c = r := by
  unfold rowHere
  rw [h]
  exact rowNat r
theorem rowHere_tup {H : Hp} {c : Addr} {r : List Nat} (h : H c = some (.tup (r.map vN))) : rowHere H c = r := by
  unfold rowHere
  rw [h]
  exact rowNat r
/-! ### calls of other shapes -/
theorem same_seqT {K : PySem.W.Frag} {H H' : Hp} {a : Addr} {xs : List V} (e : Same H H') (h : SqT K H a xs) : SqT K H' a xs := by
  rcases h with h | h
  · rcases h with h | ⟨o, h⟩
    · exact .inl (.inl (e _ _ h))
    · exact .inl (.inr ⟨o, e _ _ h⟩)
  · exact .inr h
def spCall4 (g : Int → Int → Int → List Int → List Int) (K : PySem.W.Frag) : Sp := fun vs H Q _ => ∃ (w h k : Nat) (a : Addr) (r : List Nat), vs = [vN w, vN h, vN k, .ref a] ∧ w ≤ 4294967295 ∧ h ≤ 4294967295 ∧ k ≤ 4294967295 ∧ SqL K H a (r.map vN) ∧ r.length ≤ 40 ∧
  ∀ H' p, H' p = some (.lst ((g w h k (r.map fun (x : Nat) => (x : Int))).map V.int)) → Q (.ref p) H'
def spCall5 (g : Int → Int → Int → Int → List Int → List Int) (K : PySem.W.Frag) : Sp := fun vs H Q _ => ∃ (w h c d : Nat) (a : Addr) (r : List Nat), vs = [vN w, vN h, vN c, vN d, .ref a] ∧ w ≤ 4294967295 ∧ h ≤ 4294967295 ∧ c ≤ 4294967295 ∧ d ≤ 4294967295 ∧ SqL K H a (r.map vN) ∧ r.length ≤ 40 ∧
  ∀ H' p, H' p = some (.lst ((g w h c d (r.map fun (x : Nat) => (x : Int))).map V.int)) → Q (.ref p) H'
theorem call4_of {g : Int → Int → Int → List Int → List Int} {K : PySem.W.Frag} {H : Hp} {xs : List V} {x y z : Int} {ns : List Int} {E : XK} (hx : DwAll K H xs [.int x, .int y, .int z, .list (ns.map PySem.W.WData.int)])
    (h1 : PySem.W.Codec.inInt 0 4294967295 x = true) (h2 : PySem.W.Codec.inInt 0 4294967295 y = true) (h3 : PySem.W.Codec.inInt 0 4294967295 z = true) (h4 : ns.length ≤ 40) (h5 : ns.all (PySem.W.Codec.inInt 0 4294967295) = true) :
    spCall4 g K xs H (fun v H' => Dw K H' v (.list ((g x y z ns).map PySem.W.WData.int))) E := by
  have b1 := in_int h1
  have b2 := in_int h2
  have b3 := in_int h3
  have b5 : ∀ z ∈ ns, 0 ≤ z := fun z hz => (in_int (List.all_eq_true.mp h5 z hz)).1
  obtain _ | ⟨d1, hx⟩ := hx
  obtain _ | ⟨d2, hx⟩ := hx
  obtain _ | ⟨d3, hx⟩ := hx
  obtain _ | ⟨d4, hx⟩ := hx
  cases hx
  cases d1
  cases d2
  cases d3
  cases d4 with
  | lst hs ha =>
    rename_i p _
    have e := ints_dw ns _ ha
    subst e
    refine ⟨x.toNat, y.toNat, z.toNat, p, ns.map Int.toNat, ?_, by omega, by omega, by omega, ?_, by rw [List.length_map]; exact h4, fun H' q hq => ?_⟩
    · show [V.int x, V.int y, V.int z, V.ref p] = [V.int (x.toNat : Int), V.int (y.toNat : Int), V.int (z.toNat : Int), V.ref p]
      rw [Int.toNat_of_nonneg b1.1, Int.toNat_of_nonneg b2.1, Int.toNat_of_nonneg b3.1]
    · rw [← nats_back b5]
      exact hs
    · rw [row_back b5, Int.toNat_of_nonneg b1.1, Int.toNat_of_nonneg b2.1, Int.toNat_of_nonneg b3.1] at hq
      exact .lst (SqL.of hq) (dw_ints _)
theorem call5_of {g : Int → Int → Int → Int → List Int → List Int} {K : PySem.W.Frag} {H : Hp} {xs : List V} {x y z t : Int} {ns : List Int} {E : XK} (hx : DwAll K H xs [.int x, .int y, .int z, .int t, .list (ns.map PySem.W.WData.int)])
    (h1 : PySem.W.Codec.inInt 0 4294967295 x = true) (h2 : PySem.W.Codec.inInt 0 4294967295 y = true) (h3 : PySem.W.Codec.inInt 0 4294967295 z = true) (h6 : PySem.W.Codec.inInt 0 4294967295 t = true) (h4 : ns.length ≤ 40) (h5 : ns.all (PySem.W.Codec.inInt 0 4294967295) = true) :
    spCall5 g K xs H (fun v H' => Dw K H' v (.list ((g x y z t ns).map PySem.W.WData.int))) E := by
  have b1 := in_int h1
  have b2 := in_int h2
  have b3 := in_int h3
  have b6 := in_int h6
  have b5 : ∀ z ∈ ns, 0 ≤ z := fun z hz => (in_int (List.all_eq_true.mp h5 z hz)).1
  obtain _ | ⟨d1, hx⟩ := hx
  obtain _ | ⟨d2, hx⟩ := hx
  obtain _ | ⟨d3, hx⟩ := hx
  obtain _ | ⟨d6, hx⟩ := hx
  obtain _ | ⟨d4, hx⟩ := hx
  cases hx
  cases d1
  cases d2
  cases d3
  cases d6
  cases d4 with
  | lst hs ha =>
    rename_i p _
    have e := ints_dw ns _ ha
    subst e
    refine ⟨x.toNat, y.toNat, z.toNat, t.toNat, p, ns.map Int.toNat, ?_, by omega, by omega, by omega, by omega, ?_, by rw [List.length_map]; exact h4, fun H' q hq => ?_⟩
    · show [V.int x, V.int y, V.int z, V.int t, V.ref p] = [V.int (x.toNat : Int), V.int (y.toNat : Int), V.int (z.toNat : Int), V.int (t.toNat : Int), V.ref p]
      rw [Int.toNat_of_nonneg b1.1, Int.toNat_of_nonneg b2.1, Int.toNat_of_nonneg b3.1, Int.toNat_of_nonneg b6.1]
    · rw [← nats_back b5]
      exact hs
    · rw [row_back b5, Int.toNat_of_nonneg b1.1, Int.toNat_of_nonneg b2.1, Int.toNat_of_nonneg b3.1, Int.toNat_of_nonneg b6.1] at hq
      exact .lst (SqL.of hq) (dw_ints _)
end Os
end
namespace Os
open PySem PySem.Spec PyProof.Rows L2
def top (i : Nat) : Stmt := PySem.Challenge.pw_onesquare_s02_creases.main.body.getD i (.Pass ⟨0, 0, 0, 0⟩)
abbrev s_is_sheet : Stmt := top 8
abbrev s_is_row : Stmt := top 9
abbrev s_layers_of : Stmt := top 10
abbrev s_joined_line : Stmt := top 11
abbrev s_turns_across : Stmt := top 12
abbrev s_turns_upright : Stmt := top 13
abbrev s_turns_at_sides : Stmt := top 14
abbrev s_lies_between : Stmt := top 15
abbrev s_go_through : Stmt := top 16
abbrev s_is_at_fault : Stmt := top 17
abbrev s_lowest_at_fault : Stmt := top 18
abbrev s_refusal : Stmt := top 19
abbrev s_folds : Stmt := top 20
abbrev s_front_is_up : Stmt := top 21
abbrev s_crease_between : Stmt := top 22
abbrev s_creases_of : Stmt := top 23
abbrev s_answered_row : Stmt := top 24
abbrev s_creases : Stmt := top 25
section
variable {P : Program} {w : World} {K : PySem.W.Frag} {mg : Str → Option Value} {base : Heap}
def spSheet : Sp := fun vs H Q _ => ∃ w h : Nat, vs = [vN w, vN h] ∧ w ≤ 4294967295 ∧ h ≤ 4294967295 ∧ Q (.bl (PfbSp.sheet w h)) H
theorem sheet_no {w h : Nat} (q : ¬ (1 ≤ w ∧ w ≤ 6 ∧ 1 ≤ h ∧ h ≤ 6 ∧ w * h ≤ 9)) : PfbSp.sheet w h = false := by
  cases e : PfbSp.sheet w h with
  | false => rfl
  | true =>
    have S := (sheet_iff w h).mp e
    exact absurd ⟨S.w1, S.w6, S.h1, S.h6, S.n9⟩ q
theorem sc_is_sheet : FnScope ["w", "h"] ["w", "h"] (defScope s_is_sheet) := ⟨rfl, rfl, rfl, by decide +kernel, rfl, by decide +kernel, by decide +kernel⟩
theorem fn_is_sheet {f : Addr} {fd : FuncData} (D : Here K mg "is_sheet" s_is_sheet ["w", "h"] f fd) (T : Txt mg) : FnOk P w K mg base CX0 1 f fd ["w", "h"] spSheet := by
  refine D.fn sc_is_sheet (fun vs H Q E h => ?_) (fun cdv A outer s H vs Q E hr h => ?_)
  · obtain ⟨w, h, rfl, _⟩ := h
    rfl
  · obtain ⟨w, h, rfl, hw, hh, k⟩ := h
    refine ⟨_, pss_one (ps_ret (pe_and (pe_chain op_le op_le pe_int (pv 0) (pe_num T.ma)) (pe_and (pe_chain op_le op_le pe_int (pv 1) (pe_num T.ma)) (pe_one (pe_cmpR op_le (pe_op op_mul (pv 0) (pv 1)) (pe_num T.ms) (nomark _)))))), ?_⟩
    refine ⟨_, rfl, _, _, rfl, rfl, _, rfl, ite2 (fun a1 => ?_) (fun a1 => ?_)⟩
    · have b1 := of_decide_eq_true a1
      refine ⟨_, _, rfl, rfl, _, rfl, ite2 (fun a2 => ?_) (fun a2 => ?_)⟩
      · have b2 := of_decide_eq_true a2
        refine ⟨_, rfl, _, _, rfl, rfl, _, rfl, ite2 (fun a3 => ?_) (fun a3 => ?_)⟩
        · have b3 := of_decide_eq_true a3
          refine ⟨_, _, rfl, rfl, _, rfl, ite2 (fun a4 => ?_) (fun a4 => ?_)⟩
          · have b4 := of_decide_eq_true a4
            refine ⟨_, rfl, _, rfl, _, _, rfl, rfl, .inl ⟨by omega, by omega⟩, _, _, rfl, rfl, ?_⟩
            refine end_bl k ?_
            have e : ((w : Int) * (h : Int) ≤ 9) ↔ w * h ≤ 9 := by
              rw [← Int.natCast_mul]
              omega
            by_cases q : w * h ≤ 9
            · rw [(sheet_iff w h).mpr ⟨by omega, by omega, by omega, by omega, q⟩]
              exact (decide_eq_true (e.mpr q)).symm
            · rw [sheet_no (fun z => q z.2.2.2.2)]
              exact (decide_eq_false (fun z => q (e.mp z))).symm
          · have b4 : ¬ ((h : Int) ≤ 6) := fun q => a4 (decide_eq_true q)
            exact end_bl k (sheet_no (by omega))
        · have b3 : ¬ ((1 : Int) ≤ (h : Int)) := fun q => a3 (decide_eq_true q)
          exact ⟨_, rfl, iteF (end_bl k (sheet_no (by omega)))⟩
      · have b2 : ¬ ((w : Int) ≤ 6) := fun q => a2 (decide_eq_true q)
        exact end_bl k (sheet_no (by omega))
    · have b1 : ¬ ((1 : Int) ≤ (w : Int)) := fun q => a1 (decide_eq_true q)
      exact ⟨_, rfl, iteF (end_bl k (sheet_no (by omega)))⟩
def spRow (K : PySem.W.Frag) : Sp := fun vs H Q _ => ∃ (w h : Nat) (a : Addr) (r : List Nat), vs = [vN w, vN h, .ref a] ∧ Sheet w h ∧ SqL K H a (r.map vN) ∧ r.length ≤ 40 ∧ ∀ H', Same H H' → Q (.bl (PfHp.isRow (w * h) r)) H'
theorem row_no {n : Nat} {r : List Nat} (q : ¬ Row n r) : PfHp.isRow n r = false := by
  cases e : PfHp.isRow n r with
  | false => rfl
  | true => exact absurd ((isRow_iff n r).mp e) q
theorem sc_is_row : FnScope ["w", "h", "row", "squares", "met", "square"] ["w", "h", "row"] (defScope s_is_row) := ⟨rfl, rfl, rfl, by decide +kernel, rfl, by decide +kernel, by decide +kernel⟩
theorem fn_is_row {f : Addr} {fd : FuncData} (D : Here K mg "is_row" s_is_row ["w", "h", "row"] f fd) (T : Txt mg) : FnOk P w K mg base CX0 1 f fd ["w", "h", "row"] (spRow K) := by
  refine D.fn sc_is_row (fun vs H Q E h => ?_) (fun cdv A outer s H vs Q E hr h => ?_)
  · obtain ⟨w, h, a, r, rfl, _⟩ := h
    rfl
  · obtain ⟨w, h, a, r, rfl, S, hS, hlen, k⟩ := h
    have n9 := S.n9
    have ew : ((w : Int) * (h : Int)) = ((w * h : Nat) : Int) := (Int.natCast_mul w h).symm
    have hw6 := S.w6
    generalize hn : w * h = n at *
    refine ⟨_, pss_cons (ps_set (i := 3) sc_is_row.nd rfl (Or.inl rfl) (pe_op op_mul (pv 0) (pv 1)))
      (pss_cons (ps_if (pt_cmpR op_ne (pe_len T.len (pv 2)) (pv 3) (nomark _)) (pss_one (ps_ret pe_bl)) pss_nil)
      (pss_cons (ps_set (i := 4) sc_is_row.nd rfl (Or.inl rfl) (pe_op op_rep (pe_lst (pa_cons pe_bl pa_nil)) (pv 3)))
      (pss_cons (ps_for PassesOwn.never rfl (pi_list (pv 2)) (pg_name (i := 5) sc_is_row.nd rfl (Or.inl rfl))
        (pss_cons (ps_if (pw_or (pt_cmpR op_ge (pv 5) (pv 3) (nomark _)) (pw_or1 (pt_val (pe_ix ix_list (pv 4) (pv 5) (fun _ _ => rfl))))).pt (pss_one (ps_ret pe_bl)) pss_nil)
        (pss_one (ps_asg pe_bl (pg_sub (pv 4) (pv 5) set_list)))))
      (pss_one (ps_ret pe_bl))))), ?_⟩
    refine ⟨_, rfl, _, rfl, _, _, rfl, rfl, .inl ⟨by omega, by omega⟩, ?_⟩
    simp only [ew]
    refine ⟨_, rfl, a, _, rfl, .inl hS, _, rfl, rfl, _, rfl, ite2 (fun a1 => ?_) (fun a1 => ?_)⟩
    · -- another length
      refine end_bl (k H (same_refl H)) (row_no fun R => ?_)
      rw [List.length_map, R.len] at a1
      simp at a1
    · have hl : r.length = n := by
        rw [List.length_map] at a1
        simp at a1
        omega
      refine ⟨(by show 1 ≤ sizeLine; decide), fun p0 hp0 => ?_⟩
      refine ⟨_, rfl, p0, _, _, rfl, rfl, upd_same, (by omega), (by omega), (by show 1 * ((n : Int)).toNat ≤ sizeLine; rw [Int.toNat_natCast]; exact small9 (by omega)), fun p hp => ?_⟩
      rw [Int.toNat_natCast, rep_one]
      have s0 : Same H (upd H p0 (.lst [.bl false])) := same_new (same_refl H) hp0
      have s1 : Same H (upd (upd H p0 (.lst [.bl false])) p (.lst ((List.range n).map fun _ => V.bl false))) := same_new s0 hp
      refine ⟨_, rfl, a, rfl, ⟨_, s1.seq hS⟩, for_list (K := K) (a := a) (xs := r.map vN) (fun i σ H' => ∃ v, σ = [some (vN w), some (vN h), some (.ref a), some (vN n), some (.ref p), v] ∧ Same H H' ∧
        H' p = some (.lst ((List.range n).map fun c => V.bl (decide (c ∈ r.take i)))) ∧ (r.take i).Nodup ∧ ∀ x ∈ r.take i, x < n) ⟨none, rfl, s1, ?_, ?_, ?_⟩ (fun i σ H' _ ⟨_, _, s2, _⟩ => s2.seq hS) ?_ ?_⟩
      · rw [upd_same]
        simp
      · simp
      · simp
      · rintro i y σ H' hi ⟨v, rfl, s2, hq, hnd, hlt⟩
        obtain ⟨x, hx, rfl⟩ := get_map hi
        have hpn : H p = none := s0.free hp
        refine ⟨_, rfl, _, rfl, _, _, rfl, rfl, _, rfl, ite2 (fun a2 => ?_) (fun a2 => ?_)⟩
        · have b2 := of_decide_eq_true a2
          refine iteT ?_
          exact end_bl (k H' s2) (row_no fun R => by have := R.lt x (List.mem_of_getElem? hx); omega)
        · have b2 : x < n := by
            have : ¬ ((n : Int) ≤ (x : Int)) := fun q => a2 (decide_eq_true q)
            omega
          refine ⟨_, rfl, _, rfl, p, _, _, _, rfl, rfl, SqL.of hq, atI_nat (at_range _ b2), _, rfl, ite2 (fun a3 => ?_) (fun a3 => ?_)⟩
          · have b3 := of_decide_eq_true a3
            refine end_bl (k H' s2) (row_no fun R => ?_)
            have h1 : (r.take (i + 1)).Nodup := R.nd.sublist (List.take_sublist _ _)
            rw [take_snoc hx] at h1
            exact (List.nodup_append.mp h1).2.2 x b3 x (List.mem_singleton.mpr rfl) rfl
          · have b3 : x ∉ r.take i := fun q => a3 (decide_eq_true q)
            refine ⟨_, rfl, _, rfl, p, _, _, x, rfl, rfl, hq, ixN_nat (by rw [List.length_map, List.length_range]; exact b2), ?_⟩
            refine ⟨_, rfl, same_set s2 hpn, ?_, ?_, ?_⟩
            · rw [upd_same, set_range (g := fun c => V.bl (decide (c ∈ r.take (i + 1)))) b2 (by rw [take_snoc hx]; simp) (fun c _ hc => by rw [take_snoc hx]; simp [hc])]
            · rw [take_snoc hx]
              exact List.nodup_append.mpr ⟨hnd, by simp, fun u hu z hz => by
                rw [List.mem_singleton] at hz
                subst hz
                exact fun q => b3 (q ▸ hu)⟩
            · intro z hz
              rw [take_snoc hx, List.mem_append, List.mem_singleton] at hz
              rcases hz with hz | rfl
              · exact hlt z hz
              · exact b2
      · rintro σ H' ⟨v, rfl, s2, hq, hnd, hlt⟩
        rw [List.length_map, List.take_length] at hnd hlt
        exact end_bl (k H' s2) ((isRow_iff n r).mpr ⟨hl, hnd, hlt⟩)
/-- the layers of a row's squares, by the squares' numbers -/
abbrev zL (n : Nat) (r : List Nat) : List V := (List.range n).map fun c => vN (PfHp.place r c)
def spLayers (K : PySem.W.Frag) : Sp := fun vs H Q _ => ∃ (n : Nat) (a : Addr) (r : List Nat), vs = [.ref a] ∧ n ≤ 9 ∧ Row n r ∧ SqL K H a (r.map vN) ∧ ∀ H' p, Same H H' → H' p = some (.lst (zL n r)) → Q (.ref p) H'
theorem sc_layers_of : FnScope ["row", "layers", "layer", "square"] ["row"] (defScope s_layers_of) := ⟨rfl, rfl, rfl, by decide +kernel, rfl, by decide +kernel, by decide +kernel⟩
theorem fn_layers_of {f : Addr} {fd : FuncData} (D : Here K mg "layers_of" s_layers_of ["row"] f fd) (T : Txt mg) : FnOk P w K mg base CX0 1 f fd ["row"] (spLayers K) := by
  refine D.fn sc_layers_of (fun vs H Q E h => ?_) (fun cdv A outer s H vs Q E hr h => ?_)
  · obtain ⟨n, a, r, rfl, _⟩ := h
    rfl
  · obtain ⟨n, a, r, rfl, n9, R, hS, k⟩ := h
    refine ⟨_, pss_cons (ps_set (i := 1) sc_layers_of.nd rfl (Or.inl rfl) (pe_op op_rep (pe_lst (pa_cons pe_int pa_nil)) (pe_len T.len (pv 0))))
      (pss_cons (ps_for PassesOwn.never rfl (pi_enum rfl T.enum (pa_cons (pv 0) pa_nil)) (pg_tup rfl (pgs_cons (pg_name (i := 2) sc_layers_of.nd rfl (Or.inl rfl)) (pgs_cons (pg_name (i := 3) sc_layers_of.nd rfl (Or.inl rfl)) pgs_nil)))
        (pss_one (ps_asg (pv 2) (pg_sub (pv 1) (pv 3) set_list))))
      (pss_one (ps_ret (pv 1)))), ?_⟩
    refine ⟨(by show 1 ≤ sizeLine; decide), fun p0 hp0 => ?_⟩
    have s0 : Same H (upd H p0 (.lst [.int 0])) := same_new (same_refl H) hp0
    have hlm : (r.map vN).length = n := by rw [List.length_map, R.len]
    refine ⟨_, rfl, a, _, rfl, .inl (s0.seq hS), p0, _, _, rfl, rfl, upd_same, (by rw [hlm]; omega), (by rw [hlm]; omega), (by rw [hlm]; show 1 * ((n : Int)).toNat ≤ sizeLine; rw [Int.toNat_natCast]; exact small9 (by omega)), fun p hp => ?_⟩
    rw [hlm, Int.toNat_natCast, rep_one]
    have s1 : Same H (upd (upd H p0 (.lst [.int 0])) p (.lst ((List.range n).map fun _ => V.int 0))) := same_new s0 hp
    have hpn : H p = none := s0.free hp
    refine ⟨_, rfl, a, _, rfl, s1.seq hS, for_enum (K := K) (a := a) (xs := r.map vN) (fun i σ H' => ∃ v2 v3, σ = [some (.ref a), some (.ref p), v2, v3] ∧ Same H H' ∧
      H' p = some (.lst ((List.range n).map fun c => V.int (if c ∈ r.take i then (PfHp.place r c : Int) else 0)))) ⟨none, none, rfl, s1, ?_⟩ (fun i σ H' _ ⟨_, _, _, s2, _⟩ => s2.seq hS) ?_ ?_⟩
    · rw [upd_same]
      simp
    · rintro i y σ H' T hi ⟨v2, v3, rfl, s2, hq⟩ hT
      obtain ⟨x, hx, rfl⟩ := get_map hi
      have hxn : x < n := R.lt x (List.mem_of_getElem? hx)
      refine ⟨T, _, rfl, SqT.of upd_same, rfl, _, _, rfl, _, _, rfl, rfl, ?_⟩
      have hpT : p ≠ T := ne_of_none hq hT
      refine ⟨_, rfl, _, rfl, _, rfl, p, _, _, x, rfl, rfl, (by rw [upd_ne hpT]; exact hq), ixN_nat (by rw [List.length_map, List.length_range]; exact hxn), ?_⟩
      refine ⟨_, _, rfl, same_set (same_new s2 hT) hpn, ?_⟩
      rw [upd_same, set_range (g := fun c => V.int (if c ∈ r.take (i + 1) then (PfHp.place r c : Int) else 0)) hxn (by rw [if_pos (by rw [take_snoc hx]; simp), place_of R hx]) (fun c _ hc => by
        have e : (c ∈ r.take (i + 1)) ↔ (c ∈ r.take i) := by rw [take_snoc hx]; simp [hc]
        simp only [e])]
    · rintro σ H' ⟨v2, v3, rfl, s2, hq⟩
      refine ⟨_, rfl, k H' p s2 ?_⟩
      rw [hq, hlm, ← R.len, List.take_length]
      refine congrArg (fun l => some (HO.lst l)) (List.map_congr_left fun c hc => ?_)
      rw [if_pos (R.mem c (by rw [R.len] at hc; exact List.mem_range.mp hc))]
def spJoined : Sp := fun vs H Q _ => ∃ l sd : Nat, vs = [vN l, vN sd] ∧ Q (.int (if l % 2 = sd then (l : Int) + 1 else (l : Int) - 1)) H
theorem sc_joined_line : FnScope ["line", "side"] ["line", "side"] (defScope s_joined_line) := ⟨rfl, rfl, rfl, by decide +kernel, rfl, by decide +kernel, by decide +kernel⟩
theorem fn_joined_line {f : Addr} {fd : FuncData} (D : Here K mg "joined_line" s_joined_line ["line", "side"] f fd) : FnOk P w K mg base CX0 1 f fd ["line", "side"] spJoined := by
  refine D.fn sc_joined_line (fun vs H Q E h => ?_) (fun cdv A outer s H vs Q E hr h => ?_)
  · obtain ⟨l, sd, rfl, _⟩ := h
    rfl
  · obtain ⟨l, sd, rfl, k⟩ := h
    refine ⟨_, pss_cons (ps_if (pt_cmpR op_eq (pe_op op_mod (pv 0) pe_int) (pv 1) (nomark _)) (pss_one (ps_ret (pe_op op_add (pv 0) pe_int))) pss_nil) (pss_one (ps_ret (pe_op op_sub (pv 0) pe_int))), ?_⟩
    refine ⟨_, rfl, _, _, rfl, rfl, (by show (0 : Int) < 2; decide), _, rfl, rfl, _, rfl, ite2 (fun a1 => ?_) (fun a1 => ?_)⟩
    · have b1 := of_decide_eq_true a1
      rw [V.int.injEq] at b1
      rw [if_pos (show l % 2 = sd by omega)] at k
      exact ⟨_, rfl, _, _, rfl, rfl, k⟩
    · have b1 : ¬ (V.int ((l : Int) % 2) = V.int (sd : Int)) := fun q => a1 (decide_eq_true q)
      rw [V.int.injEq] at b1
      rw [if_neg (show ¬ l % 2 = sd by omega)] at k
      exact ⟨_, rfl, _, _, rfl, rfl, k⟩
/-- what each square turns to at a side -/
abbrev tL (w h s : Nat) : List V := (List.range (w * h)).map fun c => oV (tS w h s c)
theorem nat_div (a b : Nat) : ((a : Int) / (b : Int)) = ((a / b : Nat) : Int) := rfl
theorem nat_mod (a b : Nat) : ((a : Int) % (b : Int)) = ((a % b : Nat) : Int) := rfl
def spTurnsX : Sp := fun vs H Q _ => ∃ (w h sd : Nat), vs = [vN w, vN h, vN sd] ∧ Sheet w h ∧ sd < 2 ∧ ∀ H' p, Same H H' → H' p = some (.lst (tL w h sd)) → Q (.ref p) H'
theorem sc_turns_across : FnScope ["w", "h", "side", "turns", "square", "x"] ["w", "h", "side"] (defScope s_turns_across) := ⟨rfl, rfl, rfl, by decide +kernel, rfl, by decide +kernel, by decide +kernel⟩
theorem tS_01 {w h sd c : Nat} (hs : sd < 2) : tS w h sd c = tX w sd c := by
  have e : sd = 0 ∨ sd = 1 := by omega
  rcases e with rfl | rfl <;> rfl
theorem range_snoc {α : Type} (f : Nat → α) (i : Nat) : (List.range (i + 1)).map f = (List.range i).map f ++ [f i] := by
  rw [List.range_succ, List.map_append]
  rfl
theorem fn_turns_across {f : Addr} {fd : FuncData} (D : Here K mg "turns_across" s_turns_across ["w", "h", "side"] f fd) (T : Txt mg) (J : DefOk P w K mg base 1 "joined_line" ["line", "side"] spJoined) : FnOk P w K mg base CX0 2 f fd ["w", "h", "side"] spTurnsX := by
  refine D.fn sc_turns_across (fun vs H Q E h => ?_) (fun cdv A outer s H vs Q E hr h => ?_)
  · obtain ⟨w, h, sd, rfl, _⟩ := h
    rfl
  · obtain ⟨w, h, sd, rfl, S, hsd, k⟩ := h
    have n9 := S.n9
    have w6 := S.w6
    have w1 := S.w1
    have ew : ((w : Int) * (h : Int)) = ((w * h : Nat) : Int) := (Int.natCast_mul w h).symm
    refine ⟨_, pss_cons (ps_set (i := 3) sc_turns_across.nd rfl (Or.inl rfl) (pe_lst pa_nil))
      (pss_cons (ps_for PassesOwn.never rfl (pi_range1 rfl T.range (pa_cons (pe_op op_mul (pv 0) (pv 1)) pa_nil)) (pg_name (i := 4) sc_turns_across.nd rfl (Or.inl rfl))
        (pss_cons (ps_set (i := 5) sc_turns_across.nd rfl (Or.inl rfl) (pc J hr (pa_cons (pe_op op_mod (pv 4) (pv 0)) (pa_cons (pv 2) pa_nil))))
        (pss_one (ps_expr (pe_bm PySem.F.plainAttrs_list PySem.F.slot_list_append PySem.F.type_list_append mt_append (pv 3)
          (pa_cons (pe_ifExp (pt_chain op_le op_lt pe_int (pv 5) (pv 0)) (pe_op op_add (pe_op op_mul (pv 0) (pe_op op_fdiv (pv 4) (pv 0))) (pv 5)) pe_non) pa_nil))))))
      (pss_one (ps_ret (pv 3)))), ?_⟩
    refine ⟨Nat.zero_le _, fun p hp => ?_⟩
    have s1 : Same H (upd H p (.lst [])) := same_new (same_refl H) hp
    refine ⟨_, rfl, _, rfl, _, _, rfl, rfl, .inl ⟨by omega, by omega⟩, _, rfl, (by rw [ew]; omega), (by rw [ew]; omega),
      for_range0 (n := w * h) (by rw [ew]; rfl) (fun i σ H' => ∃ v4 v5, σ = [some (vN w), some (vN h), some (vN sd), some (.ref p), v4, v5] ∧ Same H H' ∧ H' p = some (.lst ((List.range i).map fun c => oV (tS w h sd c))))
      ⟨none, none, rfl, s1, upd_same⟩ ?_ ?_⟩
    · rintro i σ H' hi ⟨v4, v5, rfl, s2, hq⟩
      refine ⟨_, rfl, _, rfl, _, _, rfl, rfl, (by omega), _, rfl, ?_⟩
      obtain ⟨m, hm⟩ : ∃ m, m = i % w := ⟨_, rfl⟩
      obtain ⟨y, hy⟩ : ∃ y, y = w * (i / w) := ⟨_, rfl⟩
      have hmw : m < w := by
        rw [hm]
        exact Nat.mod_lt _ (by omega)
      have tx : tS w h sd i = if m % 2 = sd then (if m + 1 < w then some (y + (m + 1)) else none) else if m = 0 then none else some (y + (m - 1)) := by
        rw [tS_01 hsd, hm, hy]
        rfl
      have ey : (w : Int) * ((i : Int) / (w : Int)) = (y : Int) := by
        rw [hy, nat_div, ← Int.natCast_mul]
      have em : (i : Int) % (w : Int) = (m : Int) := by
        rw [hm]
        rfl
      refine ⟨m, sd, (show [V.int ((i : Int) % (w : Int)), vN sd] = [vN m, vN sd] by rw [em]), ?_⟩
      have fin : ∀ v, v = oV (tS w h sd i) → ∃ v4 v5, [some (vN w), some (vN h), some (vN sd), some (.ref p), some (vN i), some (V.int (if m % 2 = sd then (m : Int) + 1 else (m : Int) - 1))] = [some (vN w), some (vN h), some (vN sd), some (.ref p), v4, v5] ∧ Same H (upd H' p (.lst ((List.range i).map (fun c => oV (tS w h sd c)) ++ [v]))) ∧
          upd H' p (.lst ((List.range i).map (fun c => oV (tS w h sd c)) ++ [v])) p = some (.lst ((List.range (i + 1)).map fun c => oV (tS w h sd c))) := fun v hv => by
        refine ⟨_, _, rfl, same_set s2 hp, ?_⟩
        rw [upd_same, range_snoc, hv]
      have room : ((List.range i).map fun c => oV (tS w h sd c)).length < sizeLine := by
        rw [List.length_map, List.length_range]
        exact small9' (by omega)
      refine ⟨_, rfl, .inl ⟨rfl, _, SqL.of hq⟩, _, rfl, _, _, rfl, rfl, _, rfl, ite2 (fun a1 => ?_) (fun a1 => ?_)⟩
      · have b1 := of_decide_eq_true a1
        refine ⟨_, rfl, _, _, rfl, rfl, _, rfl, ite2 (fun a2 => ?_) (fun a2 => ?_)⟩
        · have b2 := of_decide_eq_true a2
          refine ⟨_, rfl, _, rfl, _, rfl, _, _, rfl, rfl, ⟨by omega, by omega⟩, _, _, rfl, rfl, .inl ⟨by omega, by omega⟩, _, rfl, _, _, rfl, rfl, p, _, _, rfl, rfl, hq, room, ?_⟩
          refine fin _ ?_
          rw [tx]
          by_cases q : m % 2 = sd
          · rw [if_pos q] at b1 b2 ⊢
            rw [if_pos q, if_pos (by omega)]
            show V.int _ = V.int _
            refine congrArg V.int ?_
            rw [ey]
            omega
          · rw [if_neg q] at b1 b2 ⊢
            rw [if_neg q, if_neg (by omega)]
            show V.int _ = V.int _
            refine congrArg V.int ?_
            rw [ey]
            omega
        · have b2 := nd_of a2
          refine ⟨p, _, _, rfl, rfl, hq, room, fin _ ?_⟩
          rw [tx]
          by_cases q : m % 2 = sd
          · rw [if_pos q] at b1 b2 ⊢
            rw [if_neg (by omega)]
            rfl
          · rw [if_neg q] at b1 b2
            exact absurd (by omega) b2
      · have b1 := nd_of a1
        refine ⟨_, rfl, iteF ⟨p, _, _, rfl, rfl, hq, room, fin _ ?_⟩⟩
        rw [tx]
        by_cases q : m % 2 = sd
        · rw [if_pos q] at b1
          exact absurd (by omega) b1
        · rw [if_neg q] at b1 ⊢
          rw [if_pos (by omega)]
          rfl
    · rintro σ H' ⟨v4, v5, rfl, s2, hq⟩
      exact ⟨_, rfl, k H' p s2 hq⟩
def spTurnsY : Sp := fun vs H Q _ => ∃ (w h sd : Nat), vs = [vN w, vN h, vN sd] ∧ Sheet w h ∧ sd < 2 ∧ ∀ H' p, Same H H' → H' p = some (.lst (tL w h (2 + sd))) → Q (.ref p) H'
theorem sc_turns_upright : FnScope ["w", "h", "side", "turns", "square", "y"] ["w", "h", "side"] (defScope s_turns_upright) := ⟨rfl, rfl, rfl, by decide +kernel, rfl, by decide +kernel, by decide +kernel⟩
theorem tS_23 {w h sd c : Nat} (hs : sd < 2) : tS w h (2 + sd) c = tY w h sd c := by
  have e : sd = 0 ∨ sd = 1 := by omega
  rcases e with rfl | rfl <;> rfl
theorem fn_turns_upright {f : Addr} {fd : FuncData} (D : Here K mg "turns_upright" s_turns_upright ["w", "h", "side"] f fd) (T : Txt mg) (J : DefOk P w K mg base 1 "joined_line" ["line", "side"] spJoined) : FnOk P w K mg base CX0 2 f fd ["w", "h", "side"] spTurnsY := by
  refine D.fn sc_turns_upright (fun vs H Q E h => ?_) (fun cdv A outer s H vs Q E hr h => ?_)
  · obtain ⟨w, h, sd, rfl, _⟩ := h
    rfl
  · obtain ⟨w, h, sd, rfl, S, hsd, k⟩ := h
    have n9 := S.n9
    have w6 := S.w6
    have w1 := S.w1
    have ew : ((w : Int) * (h : Int)) = ((w * h : Nat) : Int) := (Int.natCast_mul w h).symm
    refine ⟨_, pss_cons (ps_set (i := 3) sc_turns_upright.nd rfl (Or.inl rfl) (pe_lst pa_nil))
      (pss_cons (ps_for PassesOwn.never rfl (pi_range1 rfl T.range (pa_cons (pe_op op_mul (pv 0) (pv 1)) pa_nil)) (pg_name (i := 4) sc_turns_upright.nd rfl (Or.inl rfl))
        (pss_cons (ps_set (i := 5) sc_turns_upright.nd rfl (Or.inl rfl) (pc J hr (pa_cons (pe_op op_fdiv (pv 4) (pv 0)) (pa_cons (pv 2) pa_nil))))
        (pss_one (ps_expr (pe_bm PySem.F.plainAttrs_list PySem.F.slot_list_append PySem.F.type_list_append mt_append (pv 3)
          (pa_cons (pe_ifExp (pt_chain op_le op_lt pe_int (pv 5) (pv 1)) (pe_op op_add (pe_op op_mul (pv 0) (pv 5)) (pe_op op_mod (pv 4) (pv 0))) pe_non) pa_nil))))))
      (pss_one (ps_ret (pv 3)))), ?_⟩
    refine ⟨Nat.zero_le _, fun p hp => ?_⟩
    have s1 : Same H (upd H p (.lst [])) := same_new (same_refl H) hp
    refine ⟨_, rfl, _, rfl, _, _, rfl, rfl, .inl ⟨by omega, by omega⟩, _, rfl, (by rw [ew]; omega), (by rw [ew]; omega),
      for_range0 (n := w * h) (by rw [ew]; rfl) (fun i σ H' => ∃ v4 v5, σ = [some (vN w), some (vN h), some (vN sd), some (.ref p), v4, v5] ∧ Same H H' ∧ H' p = some (.lst ((List.range i).map fun c => oV (tS w h (2 + sd) c))))
      ⟨none, none, rfl, s1, upd_same⟩ ?_ ?_⟩
    · rintro i σ H' hi ⟨v4, v5, rfl, s2, hq⟩
      refine ⟨_, rfl, _, rfl, _, _, rfl, rfl, ⟨by omega, by omega⟩, _, rfl, ?_⟩
      obtain ⟨m, hm⟩ : ∃ m, m = i / w := ⟨_, rfl⟩
      obtain ⟨y, hy⟩ : ∃ y, y = i % w := ⟨_, rfl⟩
      have hmh : m < h := by
        rw [hm]
        exact Nat.div_lt_of_lt_mul hi
      have tx : tS w h (2 + sd) i = if m % 2 = sd then (if m + 1 < h then some (w * (m + 1) + y) else none) else if m = 0 then none else some (w * (m - 1) + y) := by
        rw [tS_23 hsd, hm, hy]
        rfl
      have ey : (i : Int) % (w : Int) = (y : Int) := by
        rw [hy]
        rfl
      have em : (i : Int) / (w : Int) = (m : Int) := by
        rw [hm]
        rfl
      refine ⟨m, sd, (show [V.int ((i : Int) / (w : Int)), vN sd] = [vN m, vN sd] by rw [em]), ?_⟩
      have fin : ∀ v, v = oV (tS w h (2 + sd) i) → ∃ v4 v5, [some (vN w), some (vN h), some (vN sd), some (.ref p), some (vN i), some (V.int (if m % 2 = sd then (m : Int) + 1 else (m : Int) - 1))] = [some (vN w), some (vN h), some (vN sd), some (.ref p), v4, v5] ∧ Same H (upd H' p (.lst ((List.range i).map (fun c => oV (tS w h (2 + sd) c)) ++ [v]))) ∧
          upd H' p (.lst ((List.range i).map (fun c => oV (tS w h (2 + sd) c)) ++ [v])) p = some (.lst ((List.range (i + 1)).map fun c => oV (tS w h (2 + sd) c))) := fun v hv => by
        refine ⟨_, _, rfl, same_set s2 hp, ?_⟩
        rw [upd_same, range_snoc, hv]
      have room : ((List.range i).map fun c => oV (tS w h (2 + sd) c)).length < sizeLine := by
        rw [List.length_map, List.length_range]
        exact small9' (by omega)
      refine ⟨_, rfl, .inl ⟨rfl, _, SqL.of hq⟩, _, rfl, _, _, rfl, rfl, _, rfl, ite2 (fun a1 => ?_) (fun a1 => ?_)⟩
      · have b1 := of_decide_eq_true a1
        refine ⟨_, rfl, _, _, rfl, rfl, _, rfl, ite2 (fun a2 => ?_) (fun a2 => ?_)⟩
        · have b2 := of_decide_eq_true a2
          refine ⟨_, rfl, _, rfl, _, _, rfl, rfl, .inl ⟨by omega, by omega⟩, _, rfl, _, rfl, _, _, rfl, rfl, (by omega), _, _, rfl, rfl, p, _, _, rfl, rfl, hq, room, ?_⟩
          refine fin _ ?_
          rw [tx]
          by_cases q : m % 2 = sd
          · rw [if_pos q] at b1 b2 ⊢
            rw [if_pos q, if_pos (by omega)]
            show V.int _ = V.int _
            refine congrArg V.int ?_
            rw [ey, show (m : Int) + 1 = ((m + 1 : Nat) : Int) from rfl, ← Int.natCast_mul]
            rfl
          · rw [if_neg q] at b1 b2 ⊢
            rw [if_neg q, if_neg (by omega)]
            show V.int _ = V.int _
            refine congrArg V.int ?_
            rw [ey, show (m : Int) - 1 = ((m - 1 : Nat) : Int) by omega, ← Int.natCast_mul]
            rfl
        · have b2 := nd_of a2
          refine ⟨p, _, _, rfl, rfl, hq, room, fin _ ?_⟩
          rw [tx]
          by_cases q : m % 2 = sd
          · rw [if_pos q] at b1 b2 ⊢
            rw [if_neg (by omega)]
            rfl
          · rw [if_neg q] at b1 b2
            exact absurd (by omega) b2
      · have b1 := nd_of a1
        refine ⟨_, rfl, iteF ⟨p, _, _, rfl, rfl, hq, room, fin _ ?_⟩⟩
        rw [tx]
        by_cases q : m % 2 = sd
        · rw [if_pos q] at b1
          exact absurd (by omega) b1
        · rw [if_neg q] at b1 ⊢
          rw [if_pos (by omega)]
          rfl
    · rintro σ H' ⟨v4, v5, rfl, s2, hq⟩
      exact ⟨_, rfl, k H' p s2 hq⟩
/-- the four sides' lists, at S -/
def SidesAt (K : PySem.W.Frag) (H : Hp) (S : Addr) (w h : Nat) : Prop := ∃ as : List Addr, SqL K H S (as.map V.ref) ∧ as.length = 4 ∧ ∀ s a, as[s]? = some a → SqL K H a (tL w h s)
theorem SidesAt.same {K : PySem.W.Frag} {H H' : Hp} {S : Addr} {w h : Nat} (x : SidesAt K H S w h) (s : Same H H') : SidesAt K H' S w h := by
  obtain ⟨as, a1, a2, a3⟩ := x
  exact ⟨as, s.seq a1, a2, fun i a e => s.seq (a3 i a e)⟩
def spSides (K : PySem.W.Frag) : Sp := fun vs H Q _ => ∃ (w h : Nat), vs = [vN w, vN h] ∧ Sheet w h ∧ ∀ H' p, Same H H' → SidesAt K H' p w h → Q (.ref p) H'
theorem sc_turns_at_sides : FnScope ["w", "h"] ["w", "h"] (defScope s_turns_at_sides) := ⟨rfl, rfl, rfl, by decide +kernel, rfl, by decide +kernel, by decide +kernel⟩
theorem fn_turns_at_sides {f : Addr} {fd : FuncData} (D : Here K mg "turns_at_sides" s_turns_at_sides ["w", "h"] f fd) (A1 : DefOk P w K mg base 2 "turns_across" ["w", "h", "side"] spTurnsX) (U1 : DefOk P w K mg base 2 "turns_upright" ["w", "h", "side"] spTurnsY) :
    FnOk P w K mg base CX0 3 f fd ["w", "h"] (spSides K) := by
  refine D.fn sc_turns_at_sides (fun vs H Q E h => ?_) (fun cdv A outer s H vs Q E hr h => ?_)
  · obtain ⟨w, h, rfl, _⟩ := h
    rfl
  · obtain ⟨w, h, rfl, S, k⟩ := h
    refine ⟨_, pss_one (ps_ret (pe_lst (pa_cons (pc A1 hr (pa_cons (pv 0) (pa_cons (pv 1) (pa_cons pe_int pa_nil)))) (pa_cons (pc A1 hr (pa_cons (pv 0) (pa_cons (pv 1) (pa_cons pe_int pa_nil))))
      (pa_cons (pc U1 hr (pa_cons (pv 0) (pa_cons (pv 1) (pa_cons pe_int pa_nil)))) (pa_cons (pc U1 hr (pa_cons (pv 0) (pa_cons (pv 1) (pa_cons pe_int pa_nil)))) pa_nil)))))), ?_⟩
    refine ⟨_, rfl, _, rfl, w, h, 0, rfl, S, (by decide), fun H1 p1 s1 e1 => ?_⟩
    refine ⟨_, rfl, _, rfl, w, h, 1, rfl, S, (by decide), fun H2 p2 s2 e2 => ?_⟩
    refine ⟨_, rfl, _, rfl, w, h, 0, rfl, S, (by decide), fun H3 p3 s3 e3 => ?_⟩
    refine ⟨_, rfl, _, rfl, w, h, 1, rfl, S, (by decide), fun H4 p4 s4 e4 => ?_⟩
    refine ⟨(by show 4 ≤ sizeLine; decide), fun p hp => ?_⟩
    have s14 : Same H1 H4 := (s2.trans s3).trans s4
    have s5 := same_new (o := .lst [.ref p1, .ref p2, .ref p3, .ref p4]) (same_refl H4) hp
    refine k _ p (((s1.trans s14)).trans s5) ⟨[p1, p2, p3, p4], SqL.of upd_same, rfl, fun i a e => ?_⟩
    match i, e with
    | 0, e =>
      cases e
      exact SqL.of (s5 _ _ (s14 _ _ e1))
    | 1, e =>
      cases e
      exact SqL.of (s5 _ _ (s4 _ _ (s3 _ _ e2)))
    | 2, e =>
      cases e
      exact SqL.of (s5 _ _ (s4 _ _ e3))
    | 3, e =>
      cases e
      exact SqL.of (s5 _ _ e4)
    | i + 4, e => simp at e
def spBetween : Sp := fun vs H Q _ => ∃ (x a b : Nat), vs = [vN x, vN a, vN b] ∧ Q (.bl (PfPk.between a b x)) H
theorem sc_lies_between : FnScope ["layer", "one", "other"] ["layer", "one", "other"] (defScope s_lies_between) := ⟨rfl, rfl, rfl, by decide +kernel, rfl, by decide +kernel, by decide +kernel⟩
theorem between_iff (a b x : Nat) : PfPk.between a b x = true ↔ (a < x ∧ x < b) ∨ (b < x ∧ x < a) := by
  unfold PfPk.between
  rw [Bool.and_eq_true, decide_eq_true_eq, decide_eq_true_eq]
  omega
theorem between_yes {a b x : Nat} (h : (a < x ∧ x < b) ∨ (b < x ∧ x < a)) : PfPk.between a b x = true := (between_iff a b x).mpr h
theorem between_no {a b x : Nat} (h : ¬ ((a < x ∧ x < b) ∨ (b < x ∧ x < a))) : PfPk.between a b x = false := by
  cases e : PfPk.between a b x with
  | false => rfl
  | true => exact absurd ((between_iff a b x).mp e) h
theorem fn_lies_between {f : Addr} {fd : FuncData} (D : Here K mg "lies_between" s_lies_between ["layer", "one", "other"] f fd) : FnOk P w K mg base CX0 1 f fd ["layer", "one", "other"] spBetween := by
  refine D.fn sc_lies_between (fun vs H Q E h => ?_) (fun cdv A outer s H vs Q E hr h => ?_)
  · obtain ⟨x, a, b, rfl, _⟩ := h
    rfl
  · obtain ⟨x, a, b, rfl, k⟩ := h
    refine ⟨_, pss_one (ps_ret (pe_or (pe_chain op_lt op_lt (pv 1) (pv 0) (pv 2)) (pe_one (pe_chain op_lt op_lt (pv 2) (pv 0) (pv 1))))), ?_⟩
    have second : ¬ (a < x ∧ x < b) → tChain (rI0 fun i j => V.bl (decide (i < j))) (rI0 fun i j => V.bl (decide (i < j))) (tVar 2) (tVar 0) (tVar 1) [some (vN x), some (vN a), some (vN b)] H Q := fun no => by
      refine ⟨_, rfl, _, rfl, _, _, rfl, rfl, _, rfl, ite2 (fun a1 => ?_) (fun a1 => ?_)⟩
      · have b1 := of_decide_eq_true a1
        refine ⟨_, rfl, _, _, rfl, rfl, ?_⟩
        refine end_bl k ?_
        by_cases q : x < a
        · rw [between_yes (.inr ⟨by omega, q⟩)]
          exact (decide_eq_true (by omega)).symm
        · rw [between_no (by omega)]
          exact (decide_eq_false (by omega)).symm
      · have b1 := nd_of a1
        exact end_bl k (between_no (by omega))
    refine ⟨_, rfl, _, rfl, _, _, rfl, rfl, _, rfl, ite2 (fun a1 => ?_) (fun a1 => ?_)⟩
    · have b1 := of_decide_eq_true a1
      refine ⟨_, rfl, _, _, rfl, rfl, _, rfl, ite2 (fun a2 => ?_) (fun a2 => ?_)⟩
      · have b2 := of_decide_eq_true a2
        exact end_bl k (between_yes (.inl ⟨by omega, by omega⟩))
      · have b2 := nd_of a2
        exact second (by omega)
    · have b1 := nd_of a1
      exact ⟨_, rfl, iteF (second (by omega))⟩
def spGo (K : PySem.W.Frag) : Sp := fun vs H Q _ => ∃ (w h s c d : Nat) (l t : Addr) (r : List Nat), vs = [.ref l, .ref t, vN c, vN d] ∧ Sheet w h ∧ s < 4 ∧ SqL K H l (zL (w * h) r) ∧ SqL K H t (tL w h s) ∧ c < w * h ∧ d < w * h ∧ Q (.bl (goes2 (tS w h s) (PfHp.place r) c d)) H
theorem sc_go_through : FnScope ["layers", "turns", "c", "d", "c_to", "d_to", "d_within", "d_to_within"] ["layers", "turns", "c", "d"] (defScope s_go_through) := ⟨rfl, rfl, rfl, by decide +kernel, rfl, by decide +kernel, by decide +kernel⟩
theorem fn_go_through {f : Addr} {fd : FuncData} (D : Here K mg "go_through" s_go_through ["layers", "turns", "c", "d"] f fd) (B : DefOk P w K mg base 1 "lies_between" ["layer", "one", "other"] spBetween) : FnOk P w K mg base CX0 2 f fd ["layers", "turns", "c", "d"] (spGo K) := by
  refine D.fn sc_go_through (fun vs H Q E h => ?_) (fun cdv A outer s H vs Q E hr h => ?_)
  · obtain ⟨w, h, s, c, d, l, t, r, rfl, _⟩ := h
    rfl
  · obtain ⟨w, h, sd, c, d, l, t, r, rfl, S, hs, hl, ht, hc, hd, k⟩ := h
    refine ⟨_, pss_cons (ps_set (i := 4) sc_go_through.nd rfl (Or.inl rfl) (pe_ix ix_list (pv 1) (pv 2) (fun _ _ => rfl)))
      (pss_cons (ps_set (i := 5) sc_go_through.nd rfl (Or.inl rfl) (pe_ix ix_list (pv 1) (pv 3) (fun _ _ => rfl)))
      (pss_cons (ps_if (pw_or (pt_cmp (pc_isN (pv 4))) (pw_or (pt_cmp (pc_isN (pv 5))) (pw_or1 (pt_cmpR op_eq (pv 3) (pv 4) (nomark _))))).pt (pss_one (ps_ret pe_bl)) pss_nil)
      (pss_cons (ps_set (i := 6) sc_go_through.nd rfl (Or.inl rfl) (pc B hr (pa_cons (pe_ix ix_list (pv 0) (pv 3) (fun _ _ => rfl)) (pa_cons (pe_ix ix_list (pv 0) (pv 2) (fun _ _ => rfl)) (pa_cons (pe_ix ix_list (pv 0) (pv 4) (fun _ _ => rfl)) pa_nil)))))
      (pss_cons (ps_set (i := 7) sc_go_through.nd rfl (Or.inl rfl) (pc B hr (pa_cons (pe_ix ix_list (pv 0) (pv 5) (fun _ _ => rfl)) (pa_cons (pe_ix ix_list (pv 0) (pv 2) (fun _ _ => rfl)) (pa_cons (pe_ix ix_list (pv 0) (pv 4) (fun _ _ => rfl)) pa_nil)))))
      (pss_one (ps_ret (pe_cmpR op_ne (pv 6) (pv 7) (nomark _)))))))), ?_⟩
    refine ⟨_, rfl, _, rfl, t, _, _, _, rfl, rfl, ht, atI_nat (at_range _ hc), ?_⟩
    refine ⟨_, rfl, _, rfl, t, _, _, _, rfl, rfl, ht, atI_nat (at_range _ hd), ?_⟩
    have lc := tS_lt S c hc sd hs
    have ld := tS_lt S d hd sd hs
    unfold goes2 at k
    cases e1 : tS w h sd c with
    | none =>
      rw [e1] at k
      exact ⟨_, rfl, _, rfl, iteT (iteT k)⟩
    | some a =>
      have ha : a < w * h := lc a (by rw [e1]; rfl)
      refine ⟨_, rfl, _, rfl, iteF ?_⟩
      cases e2 : tS w h sd d with
      | none =>
        rw [e1, e2] at k
        exact ⟨_, rfl, _, rfl, iteT (iteT k)⟩
      | some b =>
        have hb : b < w * h := ld b (by rw [e2]; rfl)
        rw [e1, e2] at k
        dsimp only at k
        refine ⟨_, rfl, _, rfl, iteF ?_⟩
        refine ⟨_, rfl, _, rfl, rfl, _, rfl, ite2 (fun a1 => ?_) (fun a1 => ?_)⟩
        · have b1 : V.int (d : Int) = V.int (a : Int) := of_decide_eq_true a1
          rw [V.int.injEq] at b1
          have b2 : d = a := by omega
          refine end_bl k ?_
          rw [b2]
          simp
        · have b1 : ¬ (V.int (d : Int) = V.int (a : Int)) := fun q => a1 (decide_eq_true q)
          have b2 : ¬ d = a := fun q => b1 (by rw [q])
          refine ⟨_, rfl, _, rfl, l, _, _, _, rfl, rfl, hl, atI_nat (at_range _ hd), _, rfl, _, rfl, l, _, _, _, rfl, rfl, hl, atI_nat (at_range _ hc), _, rfl, _, rfl, l, _, _, _, rfl, rfl, hl, atI_nat (at_range _ ha), ?_⟩
          refine ⟨_, _, _, rfl, ?_⟩
          refine ⟨_, rfl, _, rfl, l, _, _, _, rfl, rfl, hl, atI_nat (at_range _ hb), _, rfl, _, rfl, l, _, _, _, rfl, rfl, hl, atI_nat (at_range _ hc), _, rfl, _, rfl, l, _, _, _, rfl, rfl, hl, atI_nat (at_range _ ha), ?_⟩
          refine ⟨_, _, _, rfl, ?_⟩
          refine ⟨_, rfl, _, rfl, rfl, end_bl k ?_⟩
          have e3 : (d != a) = true := by
            rw [bne_iff_ne]
            exact b2
          rw [e3, Bool.true_and, dec_bl]
          rfl
def spAtFault (K : PySem.W.Frag) : Sp := fun vs H Q _ => ∃ (w h c : Nat) (l S : Addr) (r : List Nat), vs = [.ref l, .ref S, vN c] ∧ Sheet w h ∧ SqL K H l (zL (w * h) r) ∧ SidesAt K H S w h ∧ c < w * h ∧ Q (.bl (atF w h r c)) H
theorem sc_is_at_fault : FnScope ["layers", "sides", "c", "d", "turns"] ["layers", "sides", "c"] (defScope s_is_at_fault) := ⟨rfl, rfl, rfl, by decide +kernel, rfl, by decide +kernel, by decide +kernel⟩
theorem any_four {p : Nat → Bool} : [0, 1, 2, 3].any p = true ↔ ∃ s, s < 4 ∧ p s = true := by
  constructor
  · intro h
    obtain ⟨s, hs, e⟩ := List.any_eq_true.mp h
    refine ⟨s, ?_, e⟩
    simp at hs
    omega
  · rintro ⟨s, hs, e⟩
    refine List.any_eq_true.mpr ⟨s, ?_, e⟩
    simp
    omega
theorem atF_iff (w h : Nat) (r : List Nat) (c : Nat) : atF w h r c = true ↔ ∃ d, d < w * h ∧ c < d ∧ ∃ s, s < 4 ∧ goes2 (tS w h s) (PfHp.place r) c d = true := by
  unfold atF
  rw [List.any_eq_true]
  constructor
  · rintro ⟨d, hd, e⟩
    rw [Bool.and_eq_true, decide_eq_true_eq, any_four] at e
    exact ⟨d, List.mem_range.mp hd, e.1, e.2⟩
  · rintro ⟨d, hd, e1, e2⟩
    refine ⟨d, List.mem_range.mpr hd, ?_⟩
    rw [Bool.and_eq_true, decide_eq_true_eq, any_four]
    exact ⟨e1, e2⟩
theorem atF_no {w h : Nat} {r : List Nat} {c : Nat} (q : ∀ d, d < w * h → c < d → ∀ s, s < 4 → goes2 (tS w h s) (PfHp.place r) c d = false) : atF w h r c = false := by
  cases e : atF w h r c with
  | false => rfl
  | true =>
    obtain ⟨d, hd, h1, s, hs, h2⟩ := (atF_iff w h r c).mp e
    rw [q d hd h1 s hs] at h2
    cases h2
theorem fn_is_at_fault {f : Addr} {fd : FuncData} (D : Here K mg "is_at_fault" s_is_at_fault ["layers", "sides", "c"] f fd) (T : Txt mg) (G : DefOk P w K mg base 2 "go_through" ["layers", "turns", "c", "d"] (spGo K)) : FnOk P w K mg base CX0 3 f fd ["layers", "sides", "c"] (spAtFault K) := by
  refine D.fn sc_is_at_fault (fun vs H Q E h => ?_) (fun cdv A outer s H vs Q E hr h => ?_)
  · obtain ⟨w, h, c, l, S, r, rfl, _⟩ := h
    rfl
  · obtain ⟨w, h, c, l, SS, r, rfl, S, hl, ⟨as, hS, h4, has⟩, hc, k⟩ := h
    have n9 := S.n9
    refine ⟨_, pss_cons (ps_for PassesOwn.never rfl (pi_range2 rfl T.range (pa_cons (pe_op op_add (pv 2) pe_int) (pa_cons (pe_len T.len (pv 0)) pa_nil))) (pg_name (i := 3) sc_is_at_fault.nd rfl (Or.inl rfl))
        (pss_one (ps_for PassesOwn.never rfl (pi_list (pv 1)) (pg_name (i := 4) sc_is_at_fault.nd rfl (Or.inl rfl))
          (pss_one (ps_if (pt_val (pc G hr (pa_cons (pv 0) (pa_cons (pv 4) (pa_cons (pv 2) (pa_cons (pv 3) pa_nil)))))) (pss_one (ps_ret pe_bl)) pss_nil)))))
      (pss_one (ps_ret pe_bl)), ?_⟩
    have hlen : (zL (w * h) r).length = w * h := by rw [List.length_map, List.length_range]
    refine ⟨_, rfl, _, _, rfl, rfl, _, rfl, l, _, rfl, .inl hl, _, _, rfl, (by rw [hlen]; omega), ?_⟩
    refine for_range2 (a := c + 1) (n := w * h - (c + 1)) rfl (by rw [hlen]; omega) (fun i σ H' => ∃ v3 v4, σ = [some (.ref l), some (.ref SS), some (vN c), v3, v4] ∧ H' = H ∧ ∀ d, c < d → d < c + 1 + i → ∀ s, s < 4 → goes2 (tS w h s) (PfHp.place r) c d = false)
      ⟨none, none, rfl, rfl, fun d h1 h2 => by omega⟩ ?_ ?_
    · rintro i σ H' hi ⟨v3, v4, rfl, rfl, no⟩
      refine ⟨_, rfl, SS, rfl, ⟨_, hS⟩, for_list (K := K) (a := SS) (xs := as.map V.ref) (fun j σ H'' => ∃ v4, σ = [some (.ref l), some (.ref SS), some (vN c), some (vN (c + 1 + i)), v4] ∧ H'' = H' ∧ ∀ s, s < j → goes2 (tS w h s) (PfHp.place r) c (c + 1 + i) = false)
        ⟨v4, rfl, rfl, fun s hs => by omega⟩ (fun j σ H'' _ ⟨_, _, e, _⟩ => by rw [e]; exact hS) ?_ ?_⟩
      · rintro j y σ H'' hj ⟨v4', rfl, rfl, no2⟩
        obtain ⟨t, ht, rfl⟩ := get_map hj
        have hj4 : j < 4 := by
          have := (List.getElem?_eq_some_iff.mp ht).1
          omega
        refine ⟨_, rfl, _, rfl, _, rfl, _, rfl, w, h, j, c, c + 1 + i, l, t, r, rfl, S, hj4, hl, has j t ht, hc, (by omega), _, rfl, ite2 (fun a1 => ?_) (fun a1 => ?_)⟩
        · exact end_bl k ((atF_iff w h r c).mpr ⟨c + 1 + i, by omega, by omega, j, hj4, a1⟩)
        · refine ⟨_, rfl, rfl, fun s hs => ?_⟩
          by_cases q : s = j
          · rw [q]
            exact Bool.eq_false_iff.mpr a1
          · exact no2 s (by omega)
      · rintro σ H'' ⟨v4', rfl, rfl, no2⟩
        rw [List.length_map, h4] at no2
        refine ⟨_, _, rfl, rfl, fun d h1 h2 s hs => ?_⟩
        by_cases q : d = c + 1 + i
        · rw [q]
          exact no2 s hs
        · exact no d h1 (by omega) s hs
    · rintro σ H' ⟨v3, v4, rfl, rfl, no⟩
      exact end_bl k (atF_no fun d h1 h2 s hs => no d h2 (by omega) s hs)
def spLowest (K : PySem.W.Frag) : Sp := fun vs H Q _ => ∃ (w h : Nat) (a : Addr) (r : List Nat), vs = [vN w, vN h, .ref a] ∧ Sheet w h ∧ Row (w * h) r ∧ SqL K H a (r.map vN) ∧ ∀ H', Same H H' → Q (oV ((List.range (w * h)).find? (atF w h r))) H'
theorem sc_lowest_at_fault : FnScope ["w", "h", "row", "layers", "sides", "c"] ["w", "h", "row"] (defScope s_lowest_at_fault) := ⟨rfl, rfl, rfl, by decide +kernel, rfl, by decide +kernel, by decide +kernel⟩
theorem find_range {n c : Nat} {p : Nat → Bool} (hc : c < n) (hp : p c = true) (no : ∀ d, d < c → p d = false) : (List.range n).find? p = some c := by
  rw [List.find?_range_eq_some]
  exact ⟨hp, List.mem_range.mpr hc, fun d hd => by rw [no d hd]; rfl⟩
theorem find_range_no {n : Nat} {p : Nat → Bool} (no : ∀ d, d < n → p d = false) : (List.range n).find? p = none := find_none fun d hd => no d (List.mem_range.mp hd)
theorem fn_lowest_at_fault {f : Addr} {fd : FuncData} (D : Here K mg "lowest_at_fault" s_lowest_at_fault ["w", "h", "row"] f fd) (T : Txt mg) (L : DefOk P w K mg base 1 "layers_of" ["row"] (spLayers K)) (SD : DefOk P w K mg base 3 "turns_at_sides" ["w", "h"] (spSides K))
    (AF : DefOk P w K mg base 3 "is_at_fault" ["layers", "sides", "c"] (spAtFault K)) : FnOk P w K mg base CX0 4 f fd ["w", "h", "row"] (spLowest K) := by
  refine D.fn sc_lowest_at_fault (fun vs H Q E h => ?_) (fun cdv A outer s H vs Q E hr h => ?_)
  · obtain ⟨w, h, a, r, rfl, _⟩ := h
    rfl
  · obtain ⟨w, h, a, r, rfl, S, R, hS, k⟩ := h
    have n9 := S.n9
    have hr1 : Room 1 _ := hr.mono (by decide)
    refine ⟨_, pss_cons (ps_set (i := 3) sc_lowest_at_fault.nd rfl (Or.inl rfl) (pc L hr1 (pa_cons (pv 2) pa_nil)))
      (pss_cons (ps_set (i := 4) sc_lowest_at_fault.nd rfl (Or.inl rfl) (pc SD hr (pa_cons (pv 0) (pa_cons (pv 1) pa_nil))))
      (pss_cons (ps_for PassesOwn.never rfl (pi_range1 rfl T.range (pa_cons (pe_len T.len (pv 3)) pa_nil)) (pg_name (i := 5) sc_lowest_at_fault.nd rfl (Or.inl rfl))
        (pss_one (ps_if (pt_val (pc AF hr (pa_cons (pv 3) (pa_cons (pv 4) (pa_cons (pv 5) pa_nil))))) (pss_one (ps_ret (pv 5))) pss_nil)))
      (pss_one (ps_ret pe_non)))), ?_⟩
    refine ⟨_, rfl, w * h, a, r, rfl, n9, R, hS, fun H1 l s1 e1 => ?_⟩
    refine ⟨_, rfl, _, rfl, w, h, rfl, S, fun H2 SS s2 e2 => ?_⟩
    have hl2 := s2 _ _ e1
    have hlen : (zL (w * h) r).length = w * h := by rw [List.length_map, List.length_range]
    refine ⟨_, rfl, l, _, rfl, .inl (SqL.of hl2), _, rfl, (by rw [hlen]; omega), (by rw [hlen]; omega), for_range0 (n := w * h) (by rw [hlen]; rfl)
      (fun i σ H' => ∃ v5, σ = [some (vN w), some (vN h), some (.ref a), some (.ref l), some (.ref SS), v5] ∧ H' = H2 ∧ ∀ c, c < i → atF w h r c = false) ⟨none, rfl, rfl, fun c hc => by omega⟩ ?_ ?_⟩
    · rintro i σ H' hi ⟨v5, rfl, rfl, no⟩
      refine ⟨_, rfl, _, rfl, _, rfl, w, h, i, l, SS, r, rfl, S, SqL.of hl2, e2, hi, _, rfl, ite2 (fun a1 => ?_) (fun a1 => ?_)⟩
      · refine ⟨_, rfl, ?_⟩
        have k2 := k H' (s1.trans s2)
        rw [find_range hi a1 no] at k2
        exact k2
      · refine ⟨_, rfl, rfl, fun c hc => ?_⟩
        by_cases q : c = i
        · rw [q]
          exact Bool.eq_false_iff.mpr a1
        · exact no c (by omega)
    · rintro σ H' ⟨v5, rfl, rfl, no⟩
      have k2 := k H' (s1.trans s2)
      rw [find_range_no no] at k2
      exact k2
/-- the refusal of a row, as it is answered -/
def refI (w h : Nat) (r : List Nat) : List Int := if PfbSp.sheet w h = false ∨ PfHp.isRow (w * h) r = false then [-1] else match (List.range (w * h)).find? (atF w h r) with
  | none => []
  | some c => [-5, (c : Int)]
theorem refI_no {w h : Nat} {r : List Nat} (q : PfbSp.sheet w h = false ∨ PfHp.isRow (w * h) r = false) : refI w h r = [-1] := by
  unfold refI
  rw [if_pos q]
theorem refI_yes {w h : Nat} {r : List Nat} (b1 : PfbSp.sheet w h = true) (b2 : PfHp.isRow (w * h) r = true) : refI w h r = (match (List.range (w * h)).find? (atF w h r) with
    | none => []
    | some c => [-5, (c : Int)]) := by
  unfold refI
  rw [if_neg (by rw [b1, b2]; simp)]
def spRefusal (K : PySem.W.Frag) : Sp := fun vs H Q _ => ∃ (w h : Nat) (a : Addr) (r : List Nat), vs = [vN w, vN h, .ref a] ∧ w ≤ 4294967295 ∧ h ≤ 4294967295 ∧ SqL K H a (r.map vN) ∧ r.length ≤ 40 ∧ ∀ H' p, Same H H' → H' p = some (.lst ((refI w h r).map V.int)) → Q (.ref p) H'
theorem sc_refusal : FnScope ["w", "h", "row", "square"] ["w", "h", "row"] (defScope s_refusal) := ⟨rfl, rfl, rfl, by decide +kernel, rfl, by decide +kernel, by decide +kernel⟩
theorem fn_refusal {f : Addr} {fd : FuncData} (D : Here K mg "refusal" s_refusal ["w", "h", "row"] f fd) (T : Txt mg) (ncb : ∃ t, mg "CANNOT_BE" = some (.int (-5) t)) (SH : DefOk P w K mg base 1 "is_sheet" ["w", "h"] spSheet) (IR : DefOk P w K mg base 1 "is_row" ["w", "h", "row"] (spRow K))
    (LO : DefOk P w K mg base 4 "lowest_at_fault" ["w", "h", "row"] (spLowest K)) : FnOk P w K mg base CX0 5 f fd ["w", "h", "row"] (spRefusal K) := by
  refine D.fn sc_refusal (fun vs H Q E h => ?_) (fun cdv A outer s H vs Q E hr h => ?_)
  · obtain ⟨w, h, a, r, rfl, _⟩ := h
    rfl
  · obtain ⟨w, h, a, r, rfl, hw, hh, hS, hlen, k⟩ := h
    have hr1 : Room 1 _ := hr.mono (by decide)
    refine ⟨_, pss_cons (ps_if (pw_or (pt_not (pt_val (pc SH hr1 (pa_cons (pv 0) (pa_cons (pv 1) pa_nil))))) (pw_or1 (pt_not (pt_val (pc IR hr1 (pa_cons (pv 0) (pa_cons (pv 1) (pa_cons (pv 2) pa_nil)))))))).pt
        (pss_one (ps_ret (pe_lst (pa_cons (pe_num T.no) pa_nil)))) pss_nil)
      (pss_cons (ps_set (i := 3) sc_refusal.nd rfl (Or.inl rfl) (pc LO hr (pa_cons (pv 0) (pa_cons (pv 1) (pa_cons (pv 2) pa_nil)))))
      (pss_cons (ps_if (pt_cmp (pc_isN (pv 3))) (pss_one (ps_ret (pe_lst pa_nil))) pss_nil)
      (pss_one (ps_ret (pe_lst (pa_cons (pe_num ncb) (pa_cons (pv 3) pa_nil))))))), ?_⟩
    have out : ∀ H1, Same H H1 → (PfbSp.sheet w h = false ∨ PfHp.isRow (w * h) r = false) → ([V.int (-1)] : List V).length ≤ sizeLine ∧ ∀ p, H1 p = none → Q (.ref p) (upd H1 p (.lst [V.int (-1)])) := fun H1 s1 q => by
      refine ⟨(by show 1 ≤ sizeLine; decide), fun p hp => k _ p (same_new s1 hp) ?_⟩
      rw [upd_same, refI, if_pos q]
      rfl
    refine ⟨_, rfl, _, rfl, w, h, rfl, hw, hh, _, rfl, ite2 (fun a1 => ?_) (fun a1 => ?_)⟩
    · refine iteT (out H (same_refl H) (.inl ?_))
      simpa using a1
    · have b1 : PfbSp.sheet w h = true := by simpa using a1
      have S := (sheet_iff w h).mp b1
      refine ⟨_, rfl, _, rfl, _, rfl, w, h, a, r, rfl, S, hS, hlen, fun H1 s1 => ⟨_, rfl, ite2 (fun a2 => ?_) (fun a2 => ?_)⟩⟩
      · exact out H1 s1 (.inr (by simpa using a2))
      · have b2 : PfHp.isRow (w * h) r = true := by simpa using a2
        have R := (isRow_iff (w * h) r).mp b2
        refine ⟨_, rfl, _, rfl, _, rfl, w, h, a, r, rfl, S, R, s1.seq hS, fun H2 s2 => ?_⟩
        have eR := refI_yes b1 b2
        cases e : (List.range (w * h)).find? (atF w h r) with
        | none =>
          rw [e] at eR
          refine ⟨_, rfl, _, rfl, iteT ⟨Nat.zero_le _, fun p hp => k _ p (same_new (s1.trans s2) hp) ?_⟩⟩
          rw [upd_same, eR]
          rfl
        | some c =>
          rw [e] at eR
          refine ⟨_, rfl, _, rfl, iteF ⟨_, rfl, (by show 2 ≤ sizeLine; decide), fun p hp => k _ p (same_new (s1.trans s2) hp) ?_⟩⟩
          rw [upd_same, eR]
          rfl
/-- pairs of squares, each a tuple of its own -/
structure PairsAt (H : Hp) (ts : List Addr) (l : List (Nat × Nat)) : Prop where
  len : ts.length = l.length
  at_ : ∀ (i : Nat) (t : Addr) (p : Nat × Nat), ts[i]? = some t → l[i]? = some p → H t = some (.tup [vN p.1, vN p.2])
theorem PairsAt.nil (H : Hp) : PairsAt H [] [] := ⟨rfl, fun i t p h _ => by simp at h⟩
theorem PairsAt.append {H : Hp} {ts us : List Addr} {l m : List (Nat × Nat)} (x : PairsAt H ts l) (y : PairsAt H us m) : PairsAt H (ts ++ us) (l ++ m) := by
  refine ⟨by rw [List.length_append, List.length_append, x.len, y.len], fun i t p h1 h2 => ?_⟩
  by_cases q : i < ts.length
  · rw [List.getElem?_append_left q] at h1
    rw [List.getElem?_append_left (by rw [← x.len]; exact q)] at h2
    exact x.at_ i t p h1 h2
  · rw [List.getElem?_append_right (by omega)] at h1
    rw [List.getElem?_append_right (by rw [← x.len]; omega), ← x.len] at h2
    exact y.at_ _ t p h1 h2
theorem PairsAt.mono {H H' : Hp} {ts : List Addr} {l : List (Nat × Nat)} (x : PairsAt H ts l) (k : ∀ t p, H t = some (.tup p) → H' t = some (.tup p)) : PairsAt H' ts l :=
  ⟨x.len, fun i t p h1 h2 => k t _ (x.at_ i t p h1 h2)⟩
theorem PairsAt.snoc {H : Hp} {ts : List Addr} {l : List (Nat × Nat)} {t : Addr} {p : Nat × Nat} (x : PairsAt H ts l) (h : H t = some (.tup [vN p.1, vN p.2])) : PairsAt H (ts ++ [t]) (l ++ [p]) :=
  x.append ⟨rfl, fun i u q h1 h2 => by
    match i, h1, h2 with
    | 0, h1, h2 =>
      cases h1
      cases h2
      exact h
    | i + 1, h1, h2 => simp at h1⟩
theorem filter_snoc (p : Nat → Bool) (i : Nat) : (List.range (i + 1)).filter p = (List.range i).filter p ++ (if p i = true then [i] else []) := by
  rw [List.range_succ, List.filter_append]
  by_cases q : p i = true
  · rw [if_pos q, List.filter_cons, if_pos q]
    rfl
  · rw [if_neg q, List.filter_cons, if_neg q]
    rfl
def spFolds : Sp := fun vs H Q _ => ∃ (w h : Nat), vs = [vN w, vN h] ∧ Sheet w h ∧ ∀ H' p ts, Same H H' → H' p = some (.lst (ts.map V.ref)) → PairsAt H' ts (foldsOf w h) → Q (.ref p) H'
theorem sc_folds : FnScope ["w", "h", "squares", "to_the_right", "above", "c"] ["w", "h"] (defScope s_folds) := ⟨rfl, rfl, rfl, by decide +kernel, rfl, by decide +kernel, by decide +kernel⟩
theorem bk_folds1 : BlkOk ["w", "h", "squares", "to_the_right", "above", "c"] (defScope s_folds) (compScope (nth s_folds 1)) [("c", 5)] := blkOk_by (by decide +kernel)
theorem bk_folds2 : BlkOk ["w", "h", "squares", "to_the_right", "above", "c"] (defScope s_folds) (compScope (nth s_folds 2)) [("c", 5)] := blkOk_by (by decide +kernel)
/-- one comprehension of pairs over range(n): a turn -/
theorem pair_turn {H1 H' : Hp} {D t : Addr} {ts : List Addr} {l : List (Nat × Nat)} {p : Nat × Nat} (hD1 : H1 D = none) (s : Same H1 H') (hD : H' D = some (.lst (ts.map V.ref))) (x : PairsAt H' ts l) (ht : H' t = none) :
    upd H' t (.tup [vN p.1, vN p.2]) D = some (.lst (ts.map V.ref)) ∧ Same H1 (upd (upd H' t (.tup [vN p.1, vN p.2])) D (.lst (ts.map V.ref ++ [.ref t]))) ∧
      upd (upd H' t (.tup [vN p.1, vN p.2])) D (.lst (ts.map V.ref ++ [.ref t])) D = some (.lst ((ts ++ [t]).map V.ref)) ∧ PairsAt (upd (upd H' t (.tup [vN p.1, vN p.2])) D (.lst (ts.map V.ref ++ [.ref t]))) (ts ++ [t]) (l ++ [p]) := by
  have hDt : D ≠ t := ne_of_none hD ht
  refine ⟨by rw [upd_ne hDt]; exact hD, same_set (same_new s ht) hD1, by rw [upd_same, List.map_append]; rfl, ?_⟩
  refine (x.mono fun u q hu => ?_).snoc ?_
  · have hut : u ≠ t := ne_of_none hu ht
    have huD : u ≠ D := ne_of hu hD (by intro z; cases z)
    rw [upd_ne huD, upd_ne hut]
    exact hu
  · rw [upd_ne (Ne.symm hDt), upd_same]
theorem fn_folds {f : Addr} {fd : FuncData} (D : Here K mg "folds" s_folds ["w", "h"] f fd) (T : Txt mg) : FnOk P w K mg base CX0 1 f fd ["w", "h"] spFolds := by
  refine D.fn sc_folds (fun vs H Q E h => ?_) (fun cdv A outer s H vs Q E hr h => ?_)
  · obtain ⟨w, h, rfl, _⟩ := h
    rfl
  · obtain ⟨w, h, rfl, S, k⟩ := h
    have n9 := S.n9
    have w6 := S.w6
    have w1 := S.w1
    have ew : ((w : Int) * (h : Int)) = ((w * h : Nat) : Int) := (Int.natCast_mul w h).symm
    refine ⟨_, pss_cons (ps_set (i := 2) sc_folds.nd rfl (Or.inr rfl) (pe_op op_mul (pv 0) (pv 1)))
      (pss_cons (ps_setLc (i := 3) (own := [("c", 5)]) rfl sc_folds.nd rfl rfl (sw_true rfl rfl rfl rfl) (pi_range1 rfl T.range (pa_cons (pv 2) pa_nil)) bk_folds1
          (fun _ _ _ _ _ => pg_name (i := 5) sc_folds.nd rfl (Or.inl rfl) (Or.inr rfl)) (fun _ _ _ _ _ => pts_one (pt_cmpR op_lt (pe_op op_add (pe_op op_mod (pv 5) (pv 0)) pe_int) (pv 0) (nomark _)))
          (fun _ _ _ _ _ => pe_tup (pa_cons (pv 5) (pa_cons (pe_op op_add (pv 5) pe_int) pa_nil))))
      (pss_cons (ps_setLc (i := 4) (own := [("c", 5)]) rfl sc_folds.nd rfl rfl (sw_true rfl rfl rfl rfl) (pi_range1 rfl T.range (pa_cons (pv 2) pa_nil)) bk_folds2
          (fun _ _ _ _ _ => pg_name (i := 5) sc_folds.nd rfl (Or.inl rfl) (Or.inr rfl)) (fun _ _ _ _ _ => pts_one (pt_cmpR op_lt (pe_op op_add (pv 5) (pv 0)) (pv 2) (nomark _)))
          (fun _ _ _ _ _ => pe_tup (pa_cons (pv 5) (pa_cons (pe_op op_add (pv 5) (pv 0)) pa_nil))))
      (pss_one (ps_ret (pe_op op_cat (pv 3) (pv 4)))))), ?_⟩
    refine ⟨_, rfl, _, rfl, _, _, rfl, rfl, .inl ⟨by omega, by omega⟩, ?_⟩
    simp only [ew]
    -- the pairs to the right
    refine ⟨_, rfl, _, rfl, (by omega), (by omega), fun D1 hD1 => ?_⟩
    refine lc_range0 (n := w * h) rfl (fun i H' => ∃ ts, Same H H' ∧ H' D1 = some (.lst (ts.map V.ref)) ∧ PairsAt H' ts (((List.range i).filter fun c => decide (c % w + 1 < w)).map fun c => (c, c + 1))) ⟨[], same_new (same_refl H) hD1, upd_same, PairsAt.nil _⟩ ?_ ?_
    · rintro i H' hi ⟨ts, s1, hD, x⟩
      refine ⟨rfl, _, rfl, _, rfl, _, _, rfl, rfl, (by omega), _, _, rfl, rfl, _, rfl, _, _, rfl, rfl, _, rfl, ite2 (fun a1 => ?_) (fun a1 => ?_)⟩
      · have b1 := of_decide_eq_true a1
        have c1 : i % w + 1 < w := by
          rw [nat_mod] at b1
          omega
        refine ⟨_, rfl, _, rfl, _, _, rfl, rfl, (by show 2 ≤ sizeLine; decide), fun t ht => ?_⟩
        obtain ⟨y1, y2, y3, y4⟩ := pair_turn (p := (i, i + 1)) hD1 s1 hD x ht
        refine ⟨_, y1, ?_, ts ++ [t], y2, y3, ?_⟩
        · rw [List.length_map, x.len, List.length_map]
          exact small9' (Nat.le_trans (List.length_filter_le _ _) (by rw [List.length_range]; omega))
        · rw [filter_snoc, if_pos (decide_eq_true c1), List.map_append]
          exact y4
      · have b1 := nd_of a1
        have c1 : ¬ i % w + 1 < w := by
          intro z
          refine b1 ?_
          rw [nat_mod]
          omega
        refine ⟨ts, s1, hD, ?_⟩
        rw [filter_snoc, if_neg (by simpa using c1), List.append_nil]
        exact x
    · rintro H2 ⟨ts, s2, hD2, x2⟩
      -- the pairs above
      refine ⟨_, rfl, _, rfl, (by omega), (by omega), fun D3 hD3 => ?_⟩
      refine lc_range0 (n := w * h) rfl (fun i H' => ∃ us, Same H2 H' ∧ H' D3 = some (.lst (us.map V.ref)) ∧ PairsAt H' us (((List.range i).filter fun c => decide (c + w < w * h)).map fun c => (c, c + w))) ⟨[], same_new (same_refl H2) hD3, upd_same, PairsAt.nil _⟩ ?_ ?_
      · rintro i H' hi ⟨us, s1, hD, x⟩
        refine ⟨rfl, _, rfl, _, rfl, _, _, rfl, rfl, _, rfl, _, _, rfl, rfl, _, rfl, ite2 (fun a1 => ?_) (fun a1 => ?_)⟩
        · have b1 := of_decide_eq_true a1
          have c1 : i + w < w * h := by omega
          refine ⟨_, rfl, _, rfl, _, rfl, _, _, rfl, rfl, (by show 2 ≤ sizeLine; decide), fun t ht => ?_⟩
          obtain ⟨y1, y2, y3, y4⟩ := pair_turn (p := (i, i + w)) hD3 s1 hD x ht
          refine ⟨_, y1, ?_, us ++ [t], y2, y3, ?_⟩
          · rw [List.length_map, x.len, List.length_map]
            exact small9' (Nat.le_trans (List.length_filter_le _ _) (by rw [List.length_range]; omega))
          · rw [filter_snoc, if_pos (decide_eq_true c1), List.map_append]
            exact y4
        · have b1 := nd_of a1
          have c1 : ¬ i + w < w * h := fun z => b1 (by omega)
          refine ⟨us, s1, hD, ?_⟩
          rw [filter_snoc, if_neg (by simpa using c1), List.append_nil]
          exact x
      · rintro H4 ⟨us, s4, hD4, x4⟩
        have hD24 := s4 _ _ hD2
        have len9 : ∀ p : Nat → Bool, ((List.range (w * h)).filter p).length ≤ 9 := fun p => Nat.le_trans (List.length_filter_le _ _) (by rw [List.length_range]; omega)
        refine ⟨_, rfl, _, rfl, D1, D3, _, _, rfl, rfl, hD24, hD4, ?_, fun p hp => ?_⟩
        · rw [List.length_map, List.length_map, x2.len, x4.len, List.length_map, List.length_map]
          have h1 := len9 fun c => decide (c % w + 1 < w)
          have h2 := len9 fun c => decide (c + w < w * h)
          exact small9 (by omega)
        · have s5 := same_new (o := .lst (ts.map V.ref ++ us.map V.ref)) (same_refl H4) hp
          refine k _ p (ts ++ us) ((s2.trans s4).trans s5) (by rw [upd_same, List.map_append]) ?_
          exact ((x2.mono fun t q e => s5 _ _ (s4 _ _ e))).append (x4.mono fun t q e => s5 _ _ e)
def spFront : Sp := fun vs H Q _ => ∃ (w c : Nat), vs = [vN w, vN c] ∧ 0 < w ∧ w ≤ 9 ∧ Q (.bl (front w c)) H
theorem sc_front_is_up : FnScope ["w", "square"] ["w", "square"] (defScope s_front_is_up) := ⟨rfl, rfl, rfl, by decide +kernel, rfl, by decide +kernel, by decide +kernel⟩
theorem fn_front_is_up {f : Addr} {fd : FuncData} (D : Here K mg "front_is_up" s_front_is_up ["w", "square"] f fd) : FnOk P w K mg base CX0 1 f fd ["w", "square"] spFront := by
  refine D.fn sc_front_is_up (fun vs H Q E h => ?_) (fun cdv A outer s H vs Q E hr h => ?_)
  · obtain ⟨w, c, rfl, _⟩ := h
    rfl
  · obtain ⟨w, c, rfl, w0, w9, k⟩ := h
    refine ⟨_, pss_one (ps_ret (pe_cmpR op_eq (pe_op op_mod (pe_op op_mod (pv 1) (pv 0)) pe_int) (pe_op op_mod (pe_op op_fdiv (pv 1) (pv 0)) pe_int) (nomark _))), ?_⟩
    refine ⟨_, rfl, _, rfl, _, _, rfl, rfl, (by omega), _, _, rfl, rfl, (by show (0 : Int) < 2; decide), _, rfl, _, rfl, _, _, rfl, rfl, ⟨by omega, by omega⟩, _, _, rfl, rfl, (by show (0 : Int) < 2; decide), rfl, ?_⟩
    refine end_bl k ?_
    unfold front
    rw [nat_mod, nat_div, dec_int, Bool.eq_iff_iff, beq_iff_eq, beq_iff_eq]
    omega
def spCrease (K : PySem.W.Frag) : Sp := fun vs H Q _ => ∃ (w h c d : Nat) (l : Addr) (r : List Nat), vs = [vN w, .ref l, vN c, vN d] ∧ Sheet w h ∧ SqL K H l (zL (w * h) r) ∧ c < w * h ∧ d < w * h ∧ Q (vN (crB w (PfHp.place r) c d)) H
theorem sc_crease_between : FnScope ["w", "layers", "c", "d", "front_up", "front_down"] ["w", "layers", "c", "d"] (defScope s_crease_between) := ⟨rfl, rfl, rfl, by decide +kernel, rfl, by decide +kernel, by decide +kernel⟩
theorem fn_crease_between {f : Addr} {fd : FuncData} (D : Here K mg "crease_between" s_crease_between ["w", "layers", "c", "d"] f fd) (T : Txt2 mg) (FU : DefOk P w K mg base 1 "front_is_up" ["w", "square"] spFront) : FnOk P w K mg base CX0 2 f fd ["w", "layers", "c", "d"] (spCrease K) := by
  refine D.fn sc_crease_between (fun vs H Q E h => ?_) (fun cdv A outer s H vs Q E hr h => ?_)
  · obtain ⟨w, h, c, d, l, r, rfl, _⟩ := h
    rfl
  · obtain ⟨w, h, c, d, l, r, rfl, S, hl, hc, hd, k⟩ := h
    have w6 := S.w6
    have w1 := S.w1
    refine ⟨_, pss_cons (ps_set (i := 4) sc_crease_between.nd rfl (Or.inl rfl) (pe_ifExp (pt_val (pc FU hr (pa_cons (pv 0) (pa_cons (pv 2) pa_nil)))) (pv 2) (pv 3)))
      (pss_cons (ps_set (i := 5) sc_crease_between.nd rfl (Or.inl rfl) (pe_ifExp (pt_val (pc FU hr (pa_cons (pv 0) (pa_cons (pv 2) pa_nil)))) (pv 3) (pv 2)))
      (pss_cons (ps_if (pt_cmpR op_lt (pe_ix ix_list (pv 1) (pv 4) (fun _ _ => rfl)) (pe_ix ix_list (pv 1) (pv 5) (fun _ _ => rfl)) (nomark _)) (pss_one (ps_ret (pe_num T.va))) pss_nil)
      (pss_one (ps_ret (pe_num T.mo))))), ?_⟩
    unfold crB at k
    refine ⟨_, rfl, _, rfl, w, c, rfl, (by omega), (by omega), _, rfl, ite2 (fun a1 => ?_) (fun a1 => ?_)⟩
    · rw [if_pos a1] at k
      refine ⟨_, rfl, _, rfl, _, rfl, w, c, rfl, (by omega), (by omega), _, rfl, ?_⟩
      rw [a1]
      refine iteT ⟨_, rfl, ?_⟩
      refine ⟨_, rfl, _, rfl, l, _, _, _, rfl, rfl, hl, atI_nat (at_range _ hc), _, rfl, _, rfl, l, _, _, _, rfl, rfl, hl, atI_nat (at_range _ hd), _, _, rfl, rfl, _, rfl, ite2 (fun a2 => ?_) (fun a2 => ?_)⟩
      · have b2 := of_decide_eq_true a2
        rw [if_pos (by omega)] at k
        exact k
      · have b2 := nd_of a2
        rw [if_neg (by omega)] at k
        exact k
    · have a1' : front w c = false := Bool.eq_false_iff.mpr a1
      rw [if_neg a1] at k
      refine ⟨_, rfl, _, rfl, _, rfl, w, c, rfl, (by omega), (by omega), _, rfl, ?_⟩
      rw [a1']
      refine iteF ⟨_, rfl, ?_⟩
      refine ⟨_, rfl, _, rfl, l, _, _, _, rfl, rfl, hl, atI_nat (at_range _ hd), _, rfl, _, rfl, l, _, _, _, rfl, rfl, hl, atI_nat (at_range _ hc), _, _, rfl, rfl, _, rfl, ite2 (fun a2 => ?_) (fun a2 => ?_)⟩
      · have b2 := of_decide_eq_true a2
        rw [if_pos (by omega)] at k
        exact k
      · have b2 := nd_of a2
        rw [if_neg (by omega)] at k
        exact k
theorem folds_lt {w h : Nat} (S : Sheet w h) : ∀ p ∈ foldsOf w h, p.1 < w * h ∧ p.2 < w * h :=
  by_sheets (P := fun w h => ∀ p ∈ foldsOf w h, p.1 < w * h ∧ p.2 < w * h) (by decide +kernel) S
theorem folds_len {w h : Nat} (S : Sheet w h) : (foldsOf w h).length ≤ 12 :=
  by_sheets (P := fun w h => (foldsOf w h).length ≤ 12) (by decide +kernel) S
/-- the creases of a row, as the program reckons them -/
def crL (w h : Nat) (r : List Nat) : List Nat := (foldsOf w h).map fun p => crB w (PfHp.place r) p.1 p.2
def spCreasesOf (K : PySem.W.Frag) : Sp := fun vs H Q _ => ∃ (w h : Nat) (a : Addr) (r : List Nat), vs = [vN w, vN h, .ref a] ∧ Sheet w h ∧ Row (w * h) r ∧ SqL K H a (r.map vN) ∧ ∀ H' p, Same H H' → H' p = some (.lst ((crL w h r).map vN)) → Q (.ref p) H'
theorem sc_creases_of : FnScope ["w", "h", "row", "layers", "c", "d"] ["w", "h", "row"] (defScope s_creases_of) := ⟨rfl, rfl, rfl, by decide +kernel, rfl, by decide +kernel, by decide +kernel⟩
theorem bk_creases_of : BlkOk ["w", "h", "row", "layers", "c", "d"] (defScope s_creases_of) (compScope (nth s_creases_of 1)) [("c", 4), ("d", 5)] := blkOk_by (by decide +kernel)
theorem fn_creases_of {f : Addr} {fd : FuncData} (D : Here K mg "creases_of" s_creases_of ["w", "h", "row"] f fd) (L : DefOk P w K mg base 1 "layers_of" ["row"] (spLayers K)) (FO : DefOk P w K mg base 1 "folds" ["w", "h"] spFolds)
    (CB : DefOk P w K mg base 2 "crease_between" ["w", "layers", "c", "d"] (spCrease K)) : FnOk P w K mg base CX0 3 f fd ["w", "h", "row"] (spCreasesOf K) := by
  refine D.fn sc_creases_of (fun vs H Q E h => ?_) (fun cdv A outer s H vs Q E hr h => ?_)
  · obtain ⟨w, h, a, r, rfl, _⟩ := h
    rfl
  · obtain ⟨w, h, a, r, rfl, S, R, hS, k⟩ := h
    have n9 := S.n9
    have hr1 : Room 1 _ := hr.mono (by decide)
    refine ⟨_, pss_cons (ps_set (i := 3) sc_creases_of.nd rfl (Or.inr rfl) (pc L hr1 (pa_cons (pv 2) pa_nil)))
      (pss_one (ps_ret (pe_lc (own := [("c", 4), ("d", 5)]) (g := gTup K 2 (gCons (gName 4) (gCons (gName 5) gNil))) rfl sc_creases_of.nd (pi_list (pc FO hr1 (pa_cons (pv 0) (pa_cons (pv 1) pa_nil)))) bk_creases_of
        (fun _ _ _ _ _ => pg_tup (n := 2) rfl (pgs_cons (pg_name (i := 4) sc_creases_of.nd rfl (Or.inl rfl) (Or.inr rfl)) (pgs_cons (pg_name (i := 5) sc_creases_of.nd rfl (Or.inl rfl) (Or.inr rfl)) pgs_nil))) (fun _ _ _ _ _ => pts_nil)
        (fun _ _ _ _ _ => pc CB hr (pa_cons (pv 0) (pa_cons (pv 3) (pa_cons (pv 4) (pa_cons (pv 5) pa_nil)))))))), ?_⟩
    refine ⟨_, rfl, w * h, a, r, rfl, n9, R, hS, fun H1 l s1 e1 => ?_⟩
    refine ⟨_, rfl, _, rfl, w, h, rfl, S, fun H2 p ts s2 e2 x => ?_⟩
    refine ⟨p, rfl, ⟨_, SqL.of e2⟩, fun D1 hD1 => ?_⟩
    have hl2 := s2 _ _ e1
    refine lc_list (K := K) (a := p) (xs := ts.map V.ref) (fun i H' => Same H2 H' ∧ H' D1 = some (.lst (((crL w h r).take i).map vN))) ⟨same_new (same_refl H2) hD1, upd_same⟩ (fun i H' _ ⟨s3, _⟩ => SqL.of (s3 _ _ e2)) ?_ ?_
    · rintro i y H' hi ⟨s3, hD⟩
      obtain ⟨t, ht, rfl⟩ := get_map hi
      have hil : i < (foldsOf w h).length := by
        rw [← x.len]
        exact (List.getElem?_eq_some_iff.mp ht).1
      obtain ⟨pr, hpr⟩ : ∃ pr, (foldsOf w h)[i]? = some pr := ⟨_, List.getElem?_eq_getElem hil⟩
      have htup := s3 _ _ (x.at_ i t pr ht hpr)
      have hlt := folds_lt S pr (List.mem_of_getElem? hpr)
      refine ⟨t, _, rfl, SqT.of htup, rfl, _, _, rfl, _, _, rfl, rfl, rfl, ?_⟩
      refine ⟨_, rfl, _, rfl, _, rfl, _, rfl, w, h, pr.1, pr.2, l, r, rfl, S, SqL.of (s3 _ _ hl2), hlt.1, hlt.2, ?_⟩
      refine ⟨_, hD, ?_, same_set s3 hD1, ?_⟩
      · rw [List.length_map, List.length_take]
        exact small9' (by have := folds_len S; omega)
      · have e : (crL w h r)[i]? = some (crB w (PfHp.place r) pr.1 pr.2) := by
          unfold crL
          rw [List.getElem?_map, hpr]
          rfl
        rw [upd_same, take_snoc e, List.map_append]
        rfl
    · rintro H' ⟨s3, hD⟩
      refine k H' D1 ((s1.trans s2).trans s3) ?_
      rw [hD, List.length_map, x.len]
      have e : (foldsOf w h).length = (crL w h r).length := by
        unfold crL
        rw [List.length_map]
      rw [e, List.take_length]
def spAnsRow (K : PySem.W.Frag) : Sp := fun vs H Q _ => ∃ (a : Addr) (xs : List V), vs = [.ref a] ∧ (SqL K H a xs ∨ SqT K H a xs) ∧ xs.length ≤ 90 ∧ ∀ H' p, Same H H' → H' p = some (.lst (.int 0 :: .int xs.length :: xs)) → Q (.ref p) H'
theorem sc_answered_row : FnScope ["row"] ["row"] (defScope s_answered_row) := ⟨rfl, rfl, rfl, by decide +kernel, rfl, by decide +kernel, by decide +kernel⟩
theorem same_either {H H' : Hp} {a : Addr} {xs : List V} (s : Same H H') (h : SqL K H a xs ∨ SqT K H a xs) : SqL K H' a xs ∨ SqT K H' a xs := h.elim (fun x => .inl (s.seq x)) fun x => .inr (same_seqT s x)
theorem fn_answered_row {f : Addr} {fd : FuncData} (D : Here K mg "answered_row" s_answered_row ["row"] f fd) (T : Txt mg) (zl : mg "list" = none) : FnOk P w K mg base CX0 1 f fd ["row"] (spAnsRow K) := by
  refine D.fn sc_answered_row (fun vs H Q E h => ?_) (fun cdv A outer s H vs Q E hr h => ?_)
  · obtain ⟨a, xs, rfl, _⟩ := h
    rfl
  · obtain ⟨a, xs, rfl, hS, hlen, k⟩ := h
    refine ⟨_, pss_one (ps_ret (pe_op op_cat (pe_lst (pa_cons (pe_num T.an) (pa_cons (pe_len T.len (pv 0)) pa_nil))) (pe_callTy call_list_of (by rfl) zl PyProof.Rows.boot_list (pa_cons (pv 0) pa_nil)))), ?_⟩
    refine ⟨_, rfl, a, _, rfl, hS, (by show 2 ≤ sizeLine; decide), fun v hv => ?_⟩
    have s1 : Same H (upd H v (.lst [V.int 0, V.int xs.length])) := same_new (same_refl H) hv
    refine ⟨_, rfl, a, xs, rfl, same_either s1 hS, fun l hl => ?_⟩
    have hvl : v ≠ l := fun z => by
      rw [← z, upd_same] at hl
      cases hl
    refine ⟨v, l, _, _, rfl, rfl, (by rw [upd_ne hvl, upd_same]), upd_same, small9 (by show 2 + _ ≤ 100; omega), fun z hz => k _ z (same_new (same_new s1 hl) hz) upd_same⟩
theorem creases_eq (w h : Nat) (r : List Nat) : PyYqpfba.creases w h (r.map fun (x : Nat) => (x : Int)) = if (refI w h r).isEmpty then 0 :: ((crL w h r).length : Int) :: (crL w h r).map (fun (x : Nat) => (x : Int)) else refI w h r := by
  unfold PyYqpfba.creases PfbNe.f PfbNe.callOf
  simp only [nat_nat, cast_nat, Option.bind_eq_bind, Option.bind_some]
  show PfbNe.told (PfbSp.answer (.creases w h r)) = _
  unfold PfbSp.answer
  show PfbNe.told (if PfbSp.sheet w h = false then _ else PfbSp.reckon (.creases w h r)) = _
  by_cases q : PfbSp.sheet w h = false
  · rw [if_pos q, refI_no (Or.inl q)]
    rfl
  · rw [if_neg q]
    have b1 : PfbSp.sheet w h = true := by simpa using q
    have S := (sheet_iff w h).mp b1
    unfold PfbSp.reckon
    by_cases q2 : PfHp.isRow (w * h) r = false
    · rw [refI_no (Or.inr q2)]
      dsimp only
      rw [if_pos q2]
      rfl
    · have b2 : PfHp.isRow (w * h) r = true := by simpa using q2
      rw [refI_yes b1 b2]
      dsimp only
      rw [if_neg q2, faultOf_heap S ((isRow_iff _ _).mp b2)]
      cases (List.range (w * h)).find? (atF w h r) with
      | some c => rfl
      | none =>
        show 0 :: PfbNe.rowN (PfbNe.ints (PfHp.creasesOf w h r)) = 0 :: ((crL w h r).length : Int) :: (crL w h r).map (fun (x : Nat) => (x : Int))
        rw [creasesOf_heap S]
        unfold PfbNe.rowN PfbNe.ints
        rw [List.length_map]
        rfl
theorem refI_ok {w h : Nat} {r : List Nat} (e : refI w h r = []) : Sheet w h ∧ Row (w * h) r := by
  unfold refI at e
  by_cases q : PfbSp.sheet w h = false ∨ PfHp.isRow (w * h) r = false
  · rw [if_pos q] at e
    cases e
  · simp at q
    exact ⟨(sheet_iff w h).mp q.1, (isRow_iff _ _).mp q.2⟩
theorem sc_creases : FnScope ["w", "h", "row", "refused"] ["w", "h", "row"] (defScope s_creases) := ⟨rfl, rfl, rfl, by decide +kernel, rfl, by decide +kernel, by decide +kernel⟩
theorem fn_creases {f : Addr} {fd : FuncData} (D : Here K mg "creases" s_creases ["w", "h", "row"] f fd) (_T : Txt mg) (RF : DefOk P w K mg base 5 "refusal" ["w", "h", "row"] (spRefusal K)) (CO : DefOk P w K mg base 3 "creases_of" ["w", "h", "row"] (spCreasesOf K)) (AN : DefOk P w K mg base 1 "answered_row" ["row"] (spAnsRow K)) :
    FnOk P w K mg base CX0 6 f fd ["w", "h", "row"] (spRowCall PyYqpfba.creases K) := by
  refine D.fn sc_creases (fun vs H Q E h => ?_) (fun cdv A outer s H vs Q E hr h => ?_)
  · obtain ⟨w, h, a, r, rfl, _⟩ := h
    rfl
  · obtain ⟨w, h, a, r, rfl, hw, hh, hS, hlen, k⟩ := h
    have hr3 : Room 3 _ := hr.mono (by decide)
    have hr1 : Room 1 _ := hr.mono (by decide)
    refine ⟨_, pss_cons (ps_set (i := 3) sc_creases.nd rfl (Or.inl rfl) (pc RF hr (pa_cons (pv 0) (pa_cons (pv 1) (pa_cons (pv 2) pa_nil)))))
      (pss_cons (ps_if (pt_truth (pv 3) (fun _ => rfl)) (pss_one (ps_ret (pv 3))) pss_nil)
      (pss_one (ps_ret (pc AN hr1 (pa_cons (pc CO hr3 (pa_cons (pv 0) (pa_cons (pv 1) (pa_cons (pv 2) pa_nil)))) pa_nil))))), ?_⟩
    refine ⟨_, rfl, _, rfl, _, rfl, w, h, a, r, rfl, hw, hh, hS, hlen, fun H1 p s1 e1 => ?_⟩
    rw [creases_eq] at k
    refine ⟨_, rfl, _, .inl ⟨_, SqL.of e1, rfl⟩, ite2 (fun a1 => ?_) (fun a1 => ?_)⟩
    · refine ⟨_, rfl, k H1 p ?_⟩
      cases e : refI w h r with
      | nil =>
        rw [e] at a1
        cases a1
      | cons x l =>
        rw [e1, e]
        rfl
    · cases e : refI w h r with
      | cons x l =>
        rw [e] at a1
        exact absurd rfl a1
      | nil =>
        rw [e] at k
        obtain ⟨S, R⟩ := refI_ok e
        refine ⟨_, rfl, _, rfl, _, rfl, w, h, a, r, rfl, S, R, s1.seq hS, fun H2 q s2 e2 => ?_⟩
        have hc12 : (crL w h r).length ≤ 12 := by
          unfold crL
          rw [List.length_map]
          exact folds_len S
        refine ⟨q, _, rfl, .inl (SqL.of e2), by rw [List.length_map]; omega, fun H3 v s3 e3 => k _ v ?_⟩
        rw [e3]
        exact congrArg (fun l => some (HO.lst l)) (by rw [List.length_map]; show V.int 0 :: V.int _ :: (crL w h r).map vN = List.map V.int (0 :: ((crL w h r).length : Int) :: (crL w h r).map (fun (x : Nat) => (x : Int))); rw [List.map_cons, List.map_cons, List.map_map]; rfl)
end
end Os
open PySem PySem.W PyProof.Rows
set_option maxRecDepth 100000 in
set_option maxHeartbeats 0 in
theorem PySem.Challenge.cw_onesquare_s02_creases_holds : PySem.Challenge.rw_onesquare_s02_creases.Holds := by
  w_on; k_headS; (case hw => exact ⟨[.int 0, .int 0, .list []], by decide +kernel, by decide +kernel⟩)
  k_fillS
  refine L2.walk_specK (r := PySem.Challenge.rw_onesquare_s02_creases) (k := 6) (CX := L2.CX0) (ps := ["w", "h", "row"]) (sp := Os.spRowCall PyYqpfba.creases) (by decide +kernel) rfl rfl ⟨rfl, by decide, by decide⟩ (fun w h Y => PySem.W.kIn_of Y) ?F ?S (fun _ _ _ _ z => z)
  case F =>
    intro w mg fa h Y KX G hmg
    have T : Os.Txt mg := by
      refine' Os.txt_mk KX G ?c1 ?c2 ?c3 ?c4 ?z1 ?z2 ?z3
      (case c1 => k_is)
      (case c2 => k_is)
      (case c3 => k_is)
      (case c4 => k_is)
      (case z1 => k_is)
      (case z2 => k_is)
      (case z3 => k_is)
    have n_CANNOT_BE : ∃ t, mg "CANNOT_BE" = some (.int (-5) t) := by
      refine' Os.num_mk KX G ?c
      (case c => k_is)
    have z_list : mg "list" = none := by
      refine' Os.none_mk KX G ?c
      (case c => k_is)
    have T2 : Os.Txt2 mg := by
      refine' Os.txt2_mk KX G ?c1 ?c2
      (case c1 => k_is)
      (case c2 => k_is)
    have h_is_sheet : ∃ f fd, Os.Here (L2.KOf KX) mg "is_sheet" Os.s_is_sheet ["w", "h"] f fd := by
      dsimp only [L2.KOf]
      refine' ⟨_, Os.here_mk (ps := ["w", "h"]) KX G ?a ?l ?c ?k ?b⟩
      (case a => k_is)
      (case l => k_is)
      (case c => k_is)
      (case k => k_is)
      (case b => exact fun _ _ _ _ _ _ us hl => match us, hl with | [_, _], _ => rfl)
    obtain ⟨f_is_sheet, fd_is_sheet, h_is_sheet⟩ := h_is_sheet
    have h_is_row : ∃ f fd, Os.Here (L2.KOf KX) mg "is_row" Os.s_is_row ["w", "h", "row"] f fd := by
      dsimp only [L2.KOf]
      refine' ⟨_, Os.here_mk (ps := ["w", "h", "row"]) KX G ?a ?l ?c ?k ?b⟩
      (case a => k_is)
      (case l => k_is)
      (case c => k_is)
      (case k => k_is)
      (case b => exact fun _ _ _ _ _ _ us hl => match us, hl with | [_, _, _], _ => rfl)
    obtain ⟨f_is_row, fd_is_row, h_is_row⟩ := h_is_row
    have h_layers_of : ∃ f fd, Os.Here (L2.KOf KX) mg "layers_of" Os.s_layers_of ["row"] f fd := by
      dsimp only [L2.KOf]
      refine' ⟨_, Os.here_mk (ps := ["row"]) KX G ?a ?l ?c ?k ?b⟩
      (case a => k_is)
      (case l => k_is)
      (case c => k_is)
      (case k => k_is)
      (case b => exact fun _ _ _ _ _ _ us hl => match us, hl with | [_], _ => rfl)
    obtain ⟨f_layers_of, fd_layers_of, h_layers_of⟩ := h_layers_of
    have h_joined_line : ∃ f fd, Os.Here (L2.KOf KX) mg "joined_line" Os.s_joined_line ["line", "side"] f fd := by
      dsimp only [L2.KOf]
      refine' ⟨_, Os.here_mk (ps := ["line", "side"]) KX G ?a ?l ?c ?k ?b⟩
      (case a => k_is)
      (case l => k_is)
      (case c => k_is)
      (case k => k_is)
      (case b => exact fun _ _ _ _ _ _ us hl => match us, hl with | [_, _], _ => rfl)
    obtain ⟨f_joined_line, fd_joined_line, h_joined_line⟩ := h_joined_line
    have h_turns_across : ∃ f fd, Os.Here (L2.KOf KX) mg "turns_across" Os.s_turns_across ["w", "h", "side"] f fd := by
      dsimp only [L2.KOf]
      refine' ⟨_, Os.here_mk (ps := ["w", "h", "side"]) KX G ?a ?l ?c ?k ?b⟩
      (case a => k_is)
      (case l => k_is)
      (case c => k_is)
      (case k => k_is)
      (case b => exact fun _ _ _ _ _ _ us hl => match us, hl with | [_, _, _], _ => rfl)
    obtain ⟨f_turns_across, fd_turns_across, h_turns_across⟩ := h_turns_across
    have h_turns_upright : ∃ f fd, Os.Here (L2.KOf KX) mg "turns_upright" Os.s_turns_upright ["w", "h", "side"] f fd := by
      dsimp only [L2.KOf]
      refine' ⟨_, Os.here_mk (ps := ["w", "h", "side"]) KX G ?a ?l ?c ?k ?b⟩
      (case a => k_is)
      (case l => k_is)
      (case c => k_is)
      (case k => k_is)
      (case b => exact fun _ _ _ _ _ _ us hl => match us, hl with | [_, _, _], _ => rfl)
    obtain ⟨f_turns_upright, fd_turns_upright, h_turns_upright⟩ := h_turns_upright
    have h_turns_at_sides : ∃ f fd, Os.Here (L2.KOf KX) mg "turns_at_sides" Os.s_turns_at_sides ["w", "h"] f fd := by
      dsimp only [L2.KOf]
      refine' ⟨_, Os.here_mk (ps := ["w", "h"]) KX G ?a ?l ?c ?k ?b⟩
      (case a => k_is)
      (case l => k_is)
      (case c => k_is)
      (case k => k_is)
      (case b => exact fun _ _ _ _ _ _ us hl => match us, hl with | [_, _], _ => rfl)
    obtain ⟨f_turns_at_sides, fd_turns_at_sides, h_turns_at_sides⟩ := h_turns_at_sides
    have h_lies_between : ∃ f fd, Os.Here (L2.KOf KX) mg "lies_between" Os.s_lies_between ["layer", "one", "other"] f fd := by
      dsimp only [L2.KOf]
      refine' ⟨_, Os.here_mk (ps := ["layer", "one", "other"]) KX G ?a ?l ?c ?k ?b⟩
      (case a => k_is)
      (case l => k_is)
      (case c => k_is)
      (case k => k_is)
      (case b => exact fun _ _ _ _ _ _ us hl => match us, hl with | [_, _, _], _ => rfl)
    obtain ⟨f_lies_between, fd_lies_between, h_lies_between⟩ := h_lies_between
    have h_go_through : ∃ f fd, Os.Here (L2.KOf KX) mg "go_through" Os.s_go_through ["layers", "turns", "c", "d"] f fd := by
      dsimp only [L2.KOf]
      refine' ⟨_, Os.here_mk (ps := ["layers", "turns", "c", "d"]) KX G ?a ?l ?c ?k ?b⟩
      (case a => k_is)
      (case l => k_is)
      (case c => k_is)
      (case k => k_is)
      (case b => exact fun _ _ _ _ _ _ us hl => match us, hl with | [_, _, _, _], _ => rfl)
    obtain ⟨f_go_through, fd_go_through, h_go_through⟩ := h_go_through
    have h_is_at_fault : ∃ f fd, Os.Here (L2.KOf KX) mg "is_at_fault" Os.s_is_at_fault ["layers", "sides", "c"] f fd := by
      dsimp only [L2.KOf]
      refine' ⟨_, Os.here_mk (ps := ["layers", "sides", "c"]) KX G ?a ?l ?c ?k ?b⟩
      (case a => k_is)
      (case l => k_is)
      (case c => k_is)
      (case k => k_is)
      (case b => exact fun _ _ _ _ _ _ us hl => match us, hl with | [_, _, _], _ => rfl)
    obtain ⟨f_is_at_fault, fd_is_at_fault, h_is_at_fault⟩ := h_is_at_fault
    have h_lowest_at_fault : ∃ f fd, Os.Here (L2.KOf KX) mg "lowest_at_fault" Os.s_lowest_at_fault ["w", "h", "row"] f fd := by
      dsimp only [L2.KOf]
      refine' ⟨_, Os.here_mk (ps := ["w", "h", "row"]) KX G ?a ?l ?c ?k ?b⟩
      (case a => k_is)
      (case l => k_is)
      (case c => k_is)
      (case k => k_is)
      (case b => exact fun _ _ _ _ _ _ us hl => match us, hl with | [_, _, _], _ => rfl)
    obtain ⟨f_lowest_at_fault, fd_lowest_at_fault, h_lowest_at_fault⟩ := h_lowest_at_fault
    have h_refusal : ∃ f fd, Os.Here (L2.KOf KX) mg "refusal" Os.s_refusal ["w", "h", "row"] f fd := by
      dsimp only [L2.KOf]
      refine' ⟨_, Os.here_mk (ps := ["w", "h", "row"]) KX G ?a ?l ?c ?k ?b⟩
      (case a => k_is)
      (case l => k_is)
      (case c => k_is)
      (case k => k_is)
      (case b => exact fun _ _ _ _ _ _ us hl => match us, hl with | [_, _, _], _ => rfl)
    obtain ⟨f_refusal, fd_refusal, h_refusal⟩ := h_refusal
    have h_folds : ∃ f fd, Os.Here (L2.KOf KX) mg "folds" Os.s_folds ["w", "h"] f fd := by
      dsimp only [L2.KOf]
      refine' ⟨_, Os.here_mk (ps := ["w", "h"]) KX G ?a ?l ?c ?k ?b⟩
      (case a => k_is)
      (case l => k_is)
      (case c => k_is)
      (case k => k_is)
      (case b => exact fun _ _ _ _ _ _ us hl => match us, hl with | [_, _], _ => rfl)
    obtain ⟨f_folds, fd_folds, h_folds⟩ := h_folds
    have h_front_is_up : ∃ f fd, Os.Here (L2.KOf KX) mg "front_is_up" Os.s_front_is_up ["w", "square"] f fd := by
      dsimp only [L2.KOf]
      refine' ⟨_, Os.here_mk (ps := ["w", "square"]) KX G ?a ?l ?c ?k ?b⟩
      (case a => k_is)
      (case l => k_is)
      (case c => k_is)
      (case k => k_is)
      (case b => exact fun _ _ _ _ _ _ us hl => match us, hl with | [_, _], _ => rfl)
    obtain ⟨f_front_is_up, fd_front_is_up, h_front_is_up⟩ := h_front_is_up
    have h_crease_between : ∃ f fd, Os.Here (L2.KOf KX) mg "crease_between" Os.s_crease_between ["w", "layers", "c", "d"] f fd := by
      dsimp only [L2.KOf]
      refine' ⟨_, Os.here_mk (ps := ["w", "layers", "c", "d"]) KX G ?a ?l ?c ?k ?b⟩
      (case a => k_is)
      (case l => k_is)
      (case c => k_is)
      (case k => k_is)
      (case b => exact fun _ _ _ _ _ _ us hl => match us, hl with | [_, _, _, _], _ => rfl)
    obtain ⟨f_crease_between, fd_crease_between, h_crease_between⟩ := h_crease_between
    have h_creases_of : ∃ f fd, Os.Here (L2.KOf KX) mg "creases_of" Os.s_creases_of ["w", "h", "row"] f fd := by
      dsimp only [L2.KOf]
      refine' ⟨_, Os.here_mk (ps := ["w", "h", "row"]) KX G ?a ?l ?c ?k ?b⟩
      (case a => k_is)
      (case l => k_is)
      (case c => k_is)
      (case k => k_is)
      (case b => exact fun _ _ _ _ _ _ us hl => match us, hl with | [_, _, _], _ => rfl)
    obtain ⟨f_creases_of, fd_creases_of, h_creases_of⟩ := h_creases_of
    have h_answered_row : ∃ f fd, Os.Here (L2.KOf KX) mg "answered_row" Os.s_answered_row ["row"] f fd := by
      dsimp only [L2.KOf]
      refine' ⟨_, Os.here_mk (ps := ["row"]) KX G ?a ?l ?c ?k ?b⟩
      (case a => k_is)
      (case l => k_is)
      (case c => k_is)
      (case k => k_is)
      (case b => exact fun _ _ _ _ _ _ us hl => match us, hl with | [_], _ => rfl)
    obtain ⟨f_answered_row, fd_answered_row, h_answered_row⟩ := h_answered_row
    have h_creases : ∃ f fd, Os.Here (L2.KOf KX) mg "creases" Os.s_creases ["w", "h", "row"] f fd := by
      dsimp only [L2.KOf]
      refine' ⟨_, Os.here_mk (ps := ["w", "h", "row"]) KX G ?a ?l ?c ?k ?b⟩
      (case a => k_is)
      (case l => k_is)
      (case c => k_is)
      (case k => k_is)
      (case b => exact fun _ _ _ _ _ _ us hl => match us, hl with | [_, _, _], _ => rfl)
    obtain ⟨f_creases, fd_creases, h_creases⟩ := h_creases
    have e := hmg.symm.trans h_creases.m
    cases e
    refine ⟨fd_creases, fun s us hu => .of_eq (h_creases.b us hu), fun base _ _ => ?_⟩
    have g_is_sheet := Os.fn_is_sheet (P := PySem.Challenge.rw_onesquare_s02_creases.prog) (w := w) (base := base) h_is_sheet T
    have g_is_row := Os.fn_is_row (P := PySem.Challenge.rw_onesquare_s02_creases.prog) (w := w) (base := base) h_is_row T
    have g_layers_of := Os.fn_layers_of (P := PySem.Challenge.rw_onesquare_s02_creases.prog) (w := w) (base := base) h_layers_of T
    have g_joined_line := Os.fn_joined_line (P := PySem.Challenge.rw_onesquare_s02_creases.prog) (w := w) (base := base) h_joined_line 
    have g_turns_across := Os.fn_turns_across (P := PySem.Challenge.rw_onesquare_s02_creases.prog) (w := w) (base := base) h_turns_across T (h_joined_line.ok g_joined_line)
    have g_turns_upright := Os.fn_turns_upright (P := PySem.Challenge.rw_onesquare_s02_creases.prog) (w := w) (base := base) h_turns_upright T (h_joined_line.ok g_joined_line)
    have g_turns_at_sides := Os.fn_turns_at_sides (P := PySem.Challenge.rw_onesquare_s02_creases.prog) (w := w) (base := base) h_turns_at_sides (h_turns_across.ok g_turns_across) (h_turns_upright.ok g_turns_upright)
    have g_lies_between := Os.fn_lies_between (P := PySem.Challenge.rw_onesquare_s02_creases.prog) (w := w) (base := base) h_lies_between 
    have g_go_through := Os.fn_go_through (P := PySem.Challenge.rw_onesquare_s02_creases.prog) (w := w) (base := base) h_go_through (h_lies_between.ok g_lies_between)
    have g_is_at_fault := Os.fn_is_at_fault (P := PySem.Challenge.rw_onesquare_s02_creases.prog) (w := w) (base := base) h_is_at_fault T (h_go_through.ok g_go_through)
    have g_lowest_at_fault := Os.fn_lowest_at_fault (P := PySem.Challenge.rw_onesquare_s02_creases.prog) (w := w) (base := base) h_lowest_at_fault T (h_layers_of.ok g_layers_of) (h_turns_at_sides.ok g_turns_at_sides) (h_is_at_fault.ok g_is_at_fault)
    have g_refusal := Os.fn_refusal (P := PySem.Challenge.rw_onesquare_s02_creases.prog) (w := w) (base := base) h_refusal T n_CANNOT_BE (h_is_sheet.ok g_is_sheet) (h_is_row.ok g_is_row) (h_lowest_at_fault.ok g_lowest_at_fault)
    have g_folds := Os.fn_folds (P := PySem.Challenge.rw_onesquare_s02_creases.prog) (w := w) (base := base) h_folds T
    have g_front_is_up := Os.fn_front_is_up (P := PySem.Challenge.rw_onesquare_s02_creases.prog) (w := w) (base := base) h_front_is_up 
    have g_crease_between := Os.fn_crease_between (P := PySem.Challenge.rw_onesquare_s02_creases.prog) (w := w) (base := base) h_crease_between T2 (h_front_is_up.ok g_front_is_up)
    have g_creases_of := Os.fn_creases_of (P := PySem.Challenge.rw_onesquare_s02_creases.prog) (w := w) (base := base) h_creases_of (h_layers_of.ok g_layers_of) (h_folds.ok g_folds) (h_crease_between.ok g_crease_between)
    have g_answered_row := Os.fn_answered_row (P := PySem.Challenge.rw_onesquare_s02_creases.prog) (w := w) (base := base) h_answered_row T z_list
    have g_creases := Os.fn_creases (P := PySem.Challenge.rw_onesquare_s02_creases.prog) (w := w) (base := base) h_creases T (h_refusal.ok g_refusal) (h_creases_of.ok g_creases_of) (h_answered_row.ok g_answered_row)
    exact g_creases
  case S =>
    intro K H xs a hO hwi hask hx
    have q : (Codec.inInt 0 4294967295 a.1 && (Codec.inInt 0 4294967295 a.2.1 && ((Codec.inLen 0 40 a.2.2.1 && a.2.2.1.all (Codec.inInt 0 4294967295)) && true))) = true := hwi
    simp only [Bool.and_eq_true] at q
    exact Os.row_call_of (x := a.1) (y := a.2.1) (ns := a.2.2.1) hx q.1 q.2.1 (Codec.inNat_iff.mp q.2.2.1.1).2 q.2.2.1.2
#print axioms PySem.Challenge.cw_onesquare_s02_creases_holds
