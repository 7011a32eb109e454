import PyProof.Rows.All
import Wide.All
import OpenK.AllK
import Wide.FinOn
import PyProof.EqAt
import PyProof.EqKinds
import PyProof.TupleCall
import KE.BitLaws
import KE.OsGo
import Open.SpecLaws
import PyProof.StationsW
import PyProof.ExcArgsOwn
import PyProof.InstStoreFacts
import PyProof.ExcInit
import PyProof.ExcBaseAll.Exception
import PyProof.ExcAttrAll.Exception
import PyProof.RulesAs
import KE.KLam
import KE.KSortKeyAny
import KE.KNestM
import PySem.Challenge.RW_racecards_s02_one_text
-- CHANGE: your row's module here, as the last of these rows
set_option Elab.async false
set_option linter.all false
set_option maxRecDepth 100000
/-! THE HAND LAYER, for ints, bools, texts, own classes, lists, tuples, dicts, comprehensions, walks over dicts, enumerate, zip, reversed, texts, calls, loops. Paste it whole ahead of your own text; what your proof does not reach may be deleted. -/
namespace L2
open PySem PySem.Spec PyProof.Rows

/-- a key: an int or a str -/
abbrev Key := Sum Int Str
def keyIs : Key → Value → Bool
  | .inl k, v => Value.isInt k v
  | .inr x, v => Value.isStrOf x v
def keyH (w : World) : Key → Int
  | .inl k => hashInt k
  | .inr x => hashStr w x
theorem keyIs_shape : ∀ {k : Key} {v : Value}, keyIs k v = true → (∃ i t, k = Sum.inl i ∧ v = Value.int i t) ∨ (∃ x t, k = Sum.inr x ∧ v = Value.str x t)
  | .inl i, v, h => by
    obtain ⟨t, e⟩ := Value.isInt_shape (k := i) (v := v) h
    exact .inl ⟨i, t, rfl, e⟩
  | .inr x, v, h => by
    obtain ⟨t, e⟩ := Value.isStrOf_shape (x := x) (v := v) h
    exact .inr ⟨x, t, rfl, e⟩
theorem key_ll (a b : Int) : decide ((Sum.inl a : Key) = Sum.inl b) = (a == b) := by
  by_cases e : a = b
  · subst e; simp
  · have h : ¬ (Sum.inl a : Key) = Sum.inl b := fun q => e (Sum.inl.inj q)
    rw [decide_eq_false h]
    exact (beq_eq_false_iff_ne.mpr e).symm
theorem key_rr (a b : Str) : decide ((Sum.inr a : Key) = Sum.inr b) = decide (a = b) := by
  by_cases e : a = b
  · subst e; simp
  · have h : ¬ (Sum.inr a : Key) = Sum.inr b := fun q => e (Sum.inr.inj q)
    rw [decide_eq_false h, decide_eq_false e]
theorem key_lr (a : Int) (b : Str) : decide ((Sum.inl a : Key) = Sum.inr b) = false := decide_eq_false (fun q => nomatch q)
theorem key_rl (a : Str) (b : Int) : decide ((Sum.inr a : Key) = Sum.inl b) = false := decide_eq_false (fun q => nomatch q)

def mixKind (prog : Program) (w : World) : PySem.KeyKind prog w Key where
  is := keyIs
  hash := keyH w
  inj := fun v a b ha hb => by
    rcases keyIs_shape ha with ⟨i, t, rfl, rfl⟩ | ⟨x, t, rfl, rfl⟩
    · rcases keyIs_shape hb with ⟨j, u, rfl, e⟩ | ⟨y, u, rfl, e⟩
      · injection e with e1 _; rw [e1]
      · exact nomatch e
    · rcases keyIs_shape hb with ⟨j, u, rfl, e⟩ | ⟨y, u, rfl, e⟩
      · exact nomatch e
      · injection e with e1 _; rw [e1]
  byValue := fun k v h => by
    rcases keyIs_shape h with ⟨i, t, rfl, rfl⟩ | ⟨x, t, rfl, rfl⟩ <;> rfl
  pyHash := fun hv h => by
    rcases keyIs_shape hv with ⟨i, t, rfl, rfl⟩ | ⟨x, t, rfl, rfl⟩
    · exact wpAny_pyHash_int h
    · exact wpAny_pyHash_str h
  eqBool := fun hu hv h => by
    rcases keyIs_shape hu with ⟨i, t, rfl, rfl⟩ | ⟨x, t, rfl, rfl⟩
    · rcases keyIs_shape hv with ⟨j, u, rfl, rfl⟩ | ⟨y, u, rfl, rfl⟩
      · rw [key_ll] at h; exact wpAny_eqBool_int h
      · rw [key_lr] at h; exact SeqAt.EqAt.int_str i t y u _ _ _ _ h
    · rcases keyIs_shape hv with ⟨j, u, rfl, rfl⟩ | ⟨y, u, rfl, rfl⟩
      · rw [key_rl] at h; exact SeqAt.EqAt.str_int x t j u _ _ _ _ h
      · rw [key_rr] at h; exact wpAny_eqBool_str h
  «strs» := fun k x t v h => by
    rcases keyIs_shape h with ⟨i, u, rfl, e⟩ | ⟨y, u, rfl, e⟩
    · exact nomatch e
    · injection e with e1 _
      subst e1
      cases v <;> rfl

end L2

namespace L2
open PySem PySem.Spec PyProof.Rows

/-- a value, without the heap -/
inductive V where
  | non | bl (b : Bool) | int (i : Int) | str (x : Str) | byt (b : Array UInt8) | flt (b : UInt64) | ref (a : Addr) | ty (n : String)
  deriving DecidableEq

def RelV : V → Value → Prop
  | .non, u => u = Value.none
  | .bl b, u => u = Value.bool b
  | .int i, u => ∃ t, u = Value.int i t
  | .str x, u => ∃ t, u = Value.str x t
  | .byt b, u => ∃ t, u = Value.bytes b t
  | .flt b, u => ∃ t, u = Value.float b t
  | .ref a, u => u = Value.ref a
  | .ty n, u => u = Value.type n

abbrev Vals : List V → List Value → Prop := Paired RelV
theorem Vals.length {xs : List V} {us : List Value} (r : Vals xs us) : xs.length = us.length := Paired.length r
theorem Vals.get : ∀ {xs : List V} {us : List Value} {i : Nat} {x : V}, Vals xs us → xs[i]? = some x → ∃ u, us[i]? = some u ∧ RelV x u
  | _, _, _, _, .nil, e => by simp at e
  | _, _, 0, _, .cons r _, e => by simp at e; subst e; exact ⟨_, rfl, r⟩
  | _, _, i + 1, x, .cons _ t, e => by
    obtain ⟨u, h1, h2⟩ := Vals.get (i := i) (x := x) t (by simpa using e)
    exact ⟨u, by simpa using h1, h2⟩
theorem Vals.append {xs ys : List V} {us ws : List Value} (a : Vals xs us) (b : Vals ys ws) : Vals (xs ++ ys) (us ++ ws) := by
  induction a with
  | nil => exact b
  | cons r t ih => exact .cons r ih
theorem Vals.take : ∀ {xs : List V} {us : List Value} (n : Nat), Vals xs us → Vals (xs.take n) (us.take n)
  | _, _, 0, _ => .nil
  | _, _, _ + 1, .nil => .nil
  | _, _, n + 1, .cons r t => .cons r (Vals.take n t)
theorem Vals.drop : ∀ {xs : List V} {us : List Value} (n : Nat), Vals xs us → Vals (xs.drop n) (us.drop n)
  | _, _, 0, r => r
  | _, _, _ + 1, .nil => .nil
  | _, _, n + 1, .cons _ t => Vals.drop n t

def RelO : Option V → Option Value → Prop
  | some v, some u => RelV v u
  | none, none => True
  | _, _ => False
def KV {κ : Type} : List (κ × V) → List (κ × Value) → Prop := Paired fun (p : κ × V) (q : κ × Value) => p.1 = q.1 ∧ RelV p.2 q.2

/-- a key of a dict (00_mix): an int or a text -/
def kV : Key → V
  | .inl i => .int i
  | .inr x => .str x

/-- what stands at a tracked address -/
inductive HO where
  /-- a list -/
  | lst (xs : List V)
  /-- a tuple (never changes) -/
  | tup (xs : List V)
  /-- a dict whose keys are ints and texts; one whose keys are tuples of ints and texts (the empty one is both) -/
  | dK (kvs : List (Key × V)) | dT (kvs : List (List Key × V))
  /-- a set of ints: its members, its size -/
  | set (S : Int → Bool) (n : Nat)
  /-- an instance of the class at C, its dict at dx, its attributes -/
  | ins (C dx : Addr) (fs : List (Str × V))
  /-- the dict of the instance at x -/
  | own (x : Addr)
  /-- the dict of an exception -/
  | xd (fs : List (Str × V))
  /-- a bound method, f of x -/
  | met (f x : Addr)
  /-- a range object lo, lo + 1, .. below hi -/
  | rng (lo hi : Int)
  /-- a thing that is known to the object (the script; a dict while a loop walks it): read, never written while it is so -/
  | frz (o : Obj) (u : HO)
  /-- a code object's table -/
  | tbl (ps : Array Value)
  /-- any other thing, by what is true of its one object (a def of one's own: SetO a S n := HO.ext fun h => ..) -/
  | ext (φ : Heap → Prop)

abbrev Hp := Addr → Option HO
def upd (H : Hp) (a : Addr) (o : HO) : Hp := fun b => if b = a then some o else H b
theorem upd_same {H : Hp} {a : Addr} {o : HO} : upd H a o a = some o := by unfold upd; rw [if_pos rfl]
theorem upd_ne {H : Hp} {a b : Addr} {o : HO} (h : b ≠ a) : upd H a o b = H b := by unfold upd; rw [if_neg h]
theorem upd_upd {H : Hp} {a : Addr} {o u : HO} : upd (upd H a o) a u = upd H a u := by
  funext b; unfold upd; split <;> rfl
/-- two objects of different content stand apart -/
theorem ne_of {H : Hp} {a b : Addr} {o u : HO} (h : H a = some o) (h' : H b = some u) (d : o ≠ u) : a ≠ b := by
  intro e; subst e; rw [h] at h'; exact d (Option.some.inj h')
theorem ne_of_none {H : Hp} {a b : Addr} {o : HO} (h : H a = some o) (h' : H b = none) : a ≠ b := by
  intro e; subst e; rw [h] at h'; cases h'

section
variable (P : Program) (w : World)
def ObjOk (H : Hp) (h : Heap) (a : Addr) : HO → Prop
  | .lst xs => xs.length ≤ sizeLine ∧ ∃ (its : List Value) (n : Nat), Vals xs its ∧ h.get? a = some { cls := .type "list", data := .seq its.toArray n }
  | .tup xs => xs.length ≤ sizeLine ∧ ∃ its : List Value, Vals xs its ∧ IsTup h a its.toArray
  | .dK kvs => kvs.length ≤ sizeLine ∧ (a == sysModules) = false ∧ ∃ vs, KV kvs vs ∧ h.DictOf (mixKind P w) a vs
  | .dT kvs => kvs.length ≤ sizeLine ∧ (a == sysModules) = false ∧ ∃ xs : List (List Key × Addr × Value),
      Paired (fun (p : List Key × V) (q : List Key × Addr × Value) => p.1 = q.1 ∧ H q.2.1 = some (.tup (p.1.map kV)) ∧ RelV p.2 q.2.2) kvs xs ∧
      ∃ o es ep, h.get? a = some o ∧ o.ExactDict ∧ o.data = .dict es ep ∧ es.toList = xs.map (entryOfKey (tupleKind (mixKind P w))) ∧ (xs.map (·.1)).Nodup
  | .set S n => h.SetOf (intKind P w) a S n
  | .ins C dx fs => H dx = some (.own a) ∧ fs.length ≤ 1000 ∧ dx ≠ a ∧ h.get? a = some (PySem.W.instObj C dx) ∧
      ∃ mA, h.Ns1 dx mA ∧ (∀ f, RelO (fs.lookup f) (mA f)) ∧ PySem.Within mA (fs.map (·.1))
  | .own _ => ∃ o, h.get? a = some o
  | .xd fs => ∃ mA, h.Ns1 a mA ∧ ∀ f, RelO (fs.lookup f) (mA f)
  | .rng lo hi => ∃ t u v, h.get? a = some { cls := .type "range", data := .fields #[.int lo t, .int hi u, .int 1 v] }
  | .frz o u => h.get? a = some o ∧ ObjOk H h a u
  | .tbl ps => h.get? a = some { cls := .none, data := .fields ps }
  | .met f x => h.get? a = some (PySem.W.methodObj (.ref f) (.ref x))
  | .ext φ => φ h ∧ (∃ o, h.get? a = some o) ∧ ∀ h1 h2 : Heap, φ h1 → (∀ o, h1.get? a = some o → h2.get? a = some o) → φ h2
/-- the abstract heap is held -/
def HOk (H : Hp) (h : Heap) : Prop := ∀ a o, H a = some o → ObjOk P w H h a o
end

section
variable {P : Program} {w : World} {H H' : Hp} {h h' : Heap} {a : Addr} {o : HO}
theorem ObjOk.lt (x : ObjOk P w H h a o) : a < h.objs.size := by
  cases o with
  | lst xs => obtain ⟨_, _, _, _, e⟩ := x; exact Heap.lt_size e
  | tup xs => obtain ⟨_, _, _, p⟩ := x; exact p.lt
  | dK kvs => obtain ⟨_, _, _, _, o, _, _, e, _⟩ := x; exact Heap.lt_size e
  | dT kvs => obtain ⟨_, _, _, _, o, _, _, e, _⟩ := x; exact Heap.lt_size e
  | set S n => obtain ⟨o, _, _, _, e, _⟩ := x; exact Heap.lt_size e
  | ins C dx fs => obtain ⟨_, _, _, e, _⟩ := x; exact Heap.lt_size e
  | own y => obtain ⟨_, e⟩ := x; exact Heap.lt_size e
  | xd fs => obtain ⟨_, ⟨_, _, _, e, _⟩, _⟩ := x; exact Heap.lt_size e
  | rng lo hi => obtain ⟨_, _, _, e⟩ := x; exact Heap.lt_size e
  | frz ob u => obtain ⟨e, _⟩ := x; exact Heap.lt_size e
  | tbl ps => exact Heap.lt_size (show h.get? a = some _ from x)
  | met f y => exact Heap.lt_size (show h.get? a = some _ from x)
  | ext φ => obtain ⟨_, ⟨_, e⟩, _⟩ := x; exact Heap.lt_size e
theorem Paired.mapP {α β : Type} {F G : α → β → Prop} {l₁ : List α} {l₂ : List β} (h : Paired F l₁ l₂) (f : ∀ a b, F a b → G a b) : Paired G l₁ l₂ := by
  induction h with
  | nil => exact .nil
  | cons r t ih => exact .cons (f _ _ r) ih
/-- what an object's description leans on: its own object, its own dict, the tuples -/
theorem ObjOk.stay (x : ObjOk P w H h a o) (k : ∀ b u, (b = a ∨ H b = some (.own a)) → h.get? b = some u → h'.get? b = some u)
    (ho : ∀ b, H b = some (.own a) → H' b = some (.own a)) (ht : ∀ b xs, H b = some (.tup xs) → H' b = some (.tup xs)) : ObjOk P w H' h' a o := by
  induction o with
  | lst xs => obtain ⟨z, its, n, r, e⟩ := x; exact ⟨z, its, n, r, k _ _ (.inl rfl) e⟩
  | tup xs => obtain ⟨z, its, r, ob, e, c⟩ := x; exact ⟨z, its, r, ob, k _ _ (.inl rfl) e, c⟩
  | dK kvs => obtain ⟨z, y, vs, r, ob, es, ep, e, c⟩ := x; exact ⟨z, y, vs, r, ob, es, ep, k _ _ (.inl rfl) e, c⟩
  | dT kvs =>
    obtain ⟨z, y, xs, r, ob, es, ep, e, c⟩ := x
    exact ⟨z, y, xs, Paired.mapP r fun p q z => ⟨z.1, ht _ _ z.2.1, z.2.2⟩, ob, es, ep, k _ _ (.inl rfl) e, c⟩
  | set S n => obtain ⟨ob, es, ep, t, e, c⟩ := x; exact ⟨ob, es, ep, t, k _ _ (.inl rfl) e, c⟩
  | ins C dx fs =>
    obtain ⟨d, z, ne, e, mA, ⟨od, es, ep, e2, c⟩, r⟩ := x
    exact ⟨ho _ d, z, ne, k _ _ (.inl rfl) e, mA, ⟨od, es, ep, k _ _ (.inr d) e2, c⟩, r⟩
  | own y => obtain ⟨ob, e⟩ := x; exact ⟨ob, k _ _ (.inl rfl) e⟩
  | xd fs => obtain ⟨mA, ⟨od, es, ep, e, c⟩, r⟩ := x; exact ⟨mA, ⟨od, es, ep, k _ _ (.inl rfl) e, c⟩, r⟩
  | rng lo hi => obtain ⟨t, u, v, e⟩ := x; exact ⟨t, u, v, k _ _ (.inl rfl) e⟩
  | frz ob u ih => obtain ⟨e, q⟩ := x; exact ⟨k _ _ (.inl rfl) e, ih q⟩
  | tbl ps =>
    have e : h.get? a = some { cls := .none, data := .fields ps } := x
    show h'.get? a = some { cls := .none, data := .fields ps }
    exact k a _ (.inl rfl) e
  | met f y =>
    have e : h.get? a = some (PySem.W.methodObj (.ref f) (.ref y)) := x
    show h'.get? a = some (PySem.W.methodObj (.ref f) (.ref y))
    exact k a _ (.inl rfl) e
  | ext φ => obtain ⟨p, ⟨o, e⟩, st⟩ := x; exact ⟨st _ _ p fun o q => k _ _ (.inl rfl) q, ⟨o, k _ _ (.inl rfl) e⟩, st⟩
theorem HOk.lt (x : HOk P w H h) (e : H a = some o) : a < h.objs.size := (x a o e).lt
theorem HOk.fresh (x : HOk P w H h) (e : h.objs.size ≤ a) : H a = none := by
  cases q : H a with
  | none => rfl
  | some u => exact absurd (Nat.lt_of_lt_of_le (x.lt q) e) (Nat.lt_irrefl _)
/-- every object of the heap is kept -/
theorem HOk.kept (x : HOk P w H h) (k : ∀ b u, h.get? b = some u → h'.get? b = some u) : HOk P w H h' := fun a o e =>
  (x a o e).stay (fun b u _ q => k b u q) (fun _ q => q) fun _ _ q => q
/-- a new object is laid and tracked -/
theorem HOk.laid (x : HOk P w H h) (k : ∀ b u, h.get? b = some u → h'.get? b = some u) (hp : h.objs.size ≤ a) (new : ObjOk P w (upd H a o) h' a o) : HOk P w (upd H a o) h' := fun b u e => by
  have hn := x.fresh hp
  by_cases hb : b = a
  · subst hb; rw [upd_same] at e; cases e; exact new
  · rw [upd_ne hb] at e
    exact (x b u e).stay (fun c v _ q => k c v q) (fun c q => by rw [upd_ne (ne_of_none q hn)]; exact q) fun c xs q => by rw [upd_ne (ne_of_none q hn)]; exact q
end

/-- what may be read as u: it is u, or a known u -/
def Rd (H : Hp) (a : Addr) (u : HO) : Prop := H a = some u ∨ ∃ o, H a = some (.frz o u)
theorem Rd.ok {P : Program} {w : World} {H : Hp} {h : Heap} {a : Addr} {u : HO} (r : Rd H a u) (x : HOk P w H h) : ObjOk P w H h a u := by
  rcases r with r | ⟨o, r⟩
  · exact x a u r
  · obtain ⟨_, q⟩ := x a _ r
    exact q
/-- what may be written -/
def Mut : Option HO → Prop
  | some (.lst _) => True
  | some (.dK _) => True
  | some (.dT _) => True
  | some (.set _ _) => True
  | some (.ins _ _ _) => True
  | some (.ext _) => True
  | _ => False
section
variable {P : Program} {w : World} {H : Hp} {h h' : Heap} {x e : Addr} {o' : HO}
/-- the object at e is changed: x itself, or the dict of the instance x -/
theorem HOk.write (ok : HOk P w H h) (mu : Mut (H x)) (he : e = x ∨ H e = some (.own x)) (k : ∀ b u, b ≠ e → h.get? b = some u → h'.get? b = some u) (heo : ∃ u, h'.get? e = some u)
    (new : ObjOk P w (upd H x o') h' x o') : HOk P w (upd H x o') h' := fun b u q => by
  have nown : ∀ c y, H c = some (.own y) → c ≠ x := fun c y r z => by subst z; rw [r] at mu; exact mu
  have ntup : ∀ c xs, H c = some (.tup xs) → c ≠ x := fun c xs r z => by subst z; rw [r] at mu; exact mu
  by_cases hb : b = x
  · subst hb; rw [upd_same] at q; cases q; exact new
  · rw [upd_ne hb] at q
    by_cases hbe : b = e
    · have q' : H b = some (.own x) := by
        rcases he with z | z
        · exact absurd (hbe.trans z) hb
        · rw [hbe]; exact z
      rw [q] at q'; cases q'
      obtain ⟨v, hv⟩ := heo
      exact ⟨v, by rw [hbe]; exact hv⟩
    · refine (ok b u q).stay (fun c v hc r => k c v ?_ r) (fun c r => by rw [upd_ne (nown c b r)]; exact r) fun c xs r => by rw [upd_ne (ntup c xs r)]; exact r
      rcases hc with rfl | hc
      · exact hbe
      · rintro rfl
        rcases he with z | z
        · exact nown c b hc z
        · rw [hc] at z; cases z; exact hb rfl
end

/-! ### kept unless tracked; of the frames at fs (the callers') the slots may change (an exception that passes writes there); of the records at ex (iterators) nothing is said -/
structure Un (fs ex : List Addr) (H H' : Hp) (h h' : Heap) : Prop where
  keep : ∀ b o, h.get? b = some o → H b = none → b ∉ fs → b ∉ ex → h'.get? b = some o
  slot : ∀ b o, h.get? b = some o → H b = none → b ∈ fs → b ∉ ex → ∃ sl, h'.get? b = some { o with slots := sl }
  free : ∀ b o, h.get? b = some o → H b = none → b ∉ ex → H' b = none
  there : ∀ b o, h.get? b = some o → b ∉ ex → ∃ o', h'.get? b = some o'
  tups : ∀ b xs, H b = some (.tup xs) → H' b = some (.tup xs)
  frzs : ∀ b o u, H b = some (.frz o u) → H' b = some (.frz o u)
  tbls : ∀ b ps, H b = some (.tbl ps) → ∃ more, H' b = some (.tbl (ps ++ more))
section
variable {fs fs' ex ex' : List Addr} {H H1 H2 : Hp} {h h1 h2 h' : Heap} {a x e : Addr} {o : HO}
theorem Un.any (u : Un fs ex H H1 h h1) {b : Addr} {ob : Obj} (q : h.get? b = some ob) (n : H b = none) (hx : b ∉ ex) : ∃ sl, h1.get? b = some { ob with slots := sl } := by
  by_cases hb : b ∈ fs
  · exact u.slot b ob q n hb hx
  · exact ⟨ob.slots, u.keep b ob q n hb hx⟩
theorem Un.kept (k : ∀ b u, h.get? b = some u → h'.get? b = some u) : Un fs ex H H h h' :=
  ⟨fun b ob q _ _ _ => k b ob q, fun b ob q _ _ _ => ⟨ob.slots, k b ob q⟩, fun _ _ _ n _ => n, fun b ob q _ => ⟨ob, k b ob q⟩, fun _ _ q => q, fun _ _ _ q => q, fun _ ps q => ⟨#[], by rw [q]; simp⟩⟩
theorem Un.refl : Un fs ex H H h h := Un.kept fun _ _ q => q
theorem Un.laid (k : ∀ b u, h.get? b = some u → h'.get? b = some u) (hp : h.objs.size ≤ a) (hn : H a = none) : Un fs ex H (upd H a o) h h' where
  keep := fun b u q _ _ _ => k b u q
  slot := fun b u q _ _ _ => ⟨u.slots, k b u q⟩
  free := fun b u q n _ => by rw [upd_ne (Nat.ne_of_lt (Nat.lt_of_lt_of_le (Heap.lt_size q) hp))]; exact n
  there := fun b u q _ => ⟨u, k b u q⟩
  tups := fun b xs q => by rw [upd_ne (ne_of_none q hn)]; exact q
  frzs := fun b u xs q => by rw [upd_ne (ne_of_none q hn)]; exact q
  tbls := fun b ps q => ⟨#[], by rw [upd_ne (ne_of_none q hn), q]; simp⟩
theorem Un.write (mu : Mut (H x)) (he : e = x ∨ H e = some (.own x)) (k : ∀ b u, b ≠ e → h.get? b = some u → h'.get? b = some u) (heo : ∃ u, h'.get? e = some u) : Un fs ex H (upd H x o) h h' := by
  have hx : ∀ b, H b = none → b ≠ x := fun b n z => by subst z; rw [n] at mu; exact mu
  have hb : ∀ b, H b = none → b ≠ e := fun b n z => by
    subst z
    rcases he with r | r
    · exact hx b n r
    · rw [n] at r; cases r
  have hm : ∀ b u, H b = some u → ¬ Mut (some u) → b ≠ x := fun b u q nm z => by subst z; rw [q] at mu; exact nm mu
  refine ⟨fun b u q n _ _ => k b u (hb b n) q, fun b u q n _ _ => ⟨u.slots, k b u (hb b n) q⟩, fun b u q n _ => by rw [upd_ne (hx b n)]; exact n, fun b u q _ => ?_,
    fun b xs q => by rw [upd_ne (hm b _ q fun z => z)]; exact q, fun b u xs q => by rw [upd_ne (hm b _ q fun z => z)]; exact q, fun b ps q => ⟨#[], by rw [upd_ne (hm b _ q fun z => z), q]; simp⟩⟩
  by_cases hbe : b = e
  · subst hbe; exact heo
  · exact ⟨u, k b u hbe q⟩
end

/-! ### the heap without what is tracked -/
def trk (h : Heap) (H : Hp) : List Addr := (List.range h.objs.size).filter fun a => (H a).isSome
def hidT (h : Heap) (H : Hp) : Heap := PySem.W.hideAll h (trk h H)
theorem hidT_size (h : Heap) (H : Hp) : (hidT h H).objs.size = h.objs.size := PySem.W.hideAll_size _ _
theorem hidT_get {h : Heap} {H : Hp} {b : Addr} {o : Obj} (e : h.get? b = some o) (n : H b = none) : (hidT h H).get? b = some o :=
  PySem.W.hideAll_get _ e fun hm => by
    have q : (H b).isSome = true := (List.mem_filter.mp hm).2
    rw [n] at q; simp at q
theorem of_hidT {h : Heap} {H : Hp} {b : Addr} {o : Obj} (e : (hidT h H).get? b = some o) : h.get? b = some o ∧ H b = none := by
  have e' : h.get? b = some o := PySem.W.of_hideAll (trk h H) e
  refine ⟨e', ?_⟩
  cases q : H b with
  | none => rfl
  | some x =>
    have hm : b ∈ trk h H := List.mem_filter.mpr ⟨List.mem_range.mpr (Heap.lt_size e'), by simp [q]⟩
    have z : (hidT h H).get? b = none := PySem.W.hideAll_none (trk h H) hm
    rw [z] at e; cases e

/-! ### OpenK's ledger, filled with every new object but one -/
end L2

namespace L2
open PySem PySem.Spec PyProof.Rows

/-- the module's facts, over the base: the heap at the law's entry without what is tracked there -/
structure Mod (K : PySem.W.Frag) (mg : Str → Option Value) (base : Heap) : Prop where
  kin : K.In base
  glob : base.Ns mainGlobals mg
  blt : ∃ mb, base.Ns builtinsNs mb ∧ ∀ x : Str, x ≠ "__name__" → mb x = bootBuiltins x
  nolimit : base.NoLimit

/-- the context: a def's body (or a comprehension's block) running. base: fixed through the whole law; s₀, H₀: the entry; outer: the frames whose slots others may change (a def's callers); stack: all frames that run;
   ex: iterators that were made ahead of the entry and are walked here (a comprehension's); fn: the names whose cells were made at the entry (a def: all; a comprehension's block: its own); calm: not within an except suite; pn: pins that every state bears; xe: what is wanted of an exception that leaves the code -/
structure Cx where
  prog : Program
  w : World
  K : PySem.W.Frag
  mg : Str → Option Value
  base : Heap
  A : Around
  N : List Str
  s_0 : Shared
  H_0 : Hp
  env : Env
  outer : List Env
  stack : List Env
  ex : List Addr
  fn : Str → Bool
  calm : Bool
  pn : List (Addr × Obj)
  xe : Value → Shared → Prop
/-- the callers' frames -/
def frs (l : List Env) : List Addr := l.filterMap (·.frame)
abbrev Cx.fs (X : Cx) : List Addr := frs X.outer

def Vis (sc : Scope) (x : Str) : Prop := sc.names.lookup x = some .local ∨ sc.names.lookup x = some .cell ∨ sc.names.lookup x = some .free
def Loc (sc : Scope) (x : Str) : Prop := sc.names.lookup x = some .local ∨ sc.names.lookup x = some .cell
def Look (env : Env) (h : Heap) (m : Str → Option Value) (x : Str) (u : Value) : Prop :=
  (env.kindOf x = some .local ∧ m x = some u) ∨ ((env.kindOf x = some .cell ∨ env.kindOf x = some .free) ∧ ∃ c, env.cells.lookup x = some c ∧ h.IsCell c (some u))

structure Cx.Ok (X : Cx) : Prop where
  mod : Mod X.K X.mg X.base
  kind : X.env.scope.kind = .function
  glob : X.env.globals = mainGlobals
  blt : X.env.builtins = builtinsNs
  above : X.s_0.heap.objs.size ≤ X.env.locals
  inj : ∀ x y c, X.env.cells.lookup x = some c → X.env.cells.lookup y = some c → x = y
  has : ∀ x, (X.env.kindOf x = some .cell ∨ X.env.kindOf x = some .free) → ∃ c, X.env.cells.lookup x = some c
  cab : ∀ x c, X.fn x = true → X.env.cells.lookup x = some c → X.s_0.heap.objs.size ≤ c
  hd : X.calm = true → X.A.handled = none
  frames : X.A.frames = some X.stack
  stk : X.stack = X.outer ∨ (X.stack = X.env :: X.outer ∧ X.env.frame = some X.env.locals)
  exf : ∀ b ∈ X.ex, b ≠ X.env.locals ∧ ∀ x c, X.env.cells.lookup x = some c → c ≠ b
  bs : ∀ b o, X.base.get? b = some o → X.s_0.heap.get? b = some o ∧ X.H_0 b = none
  bsz : X.base.objs.size ≤ X.s_0.heap.objs.size
  noex : ∀ b o, X.base.get? b = some o → b ∉ X.ex
  exfs : ∀ b ∈ X.ex, b ∉ X.fs
  funs : X.s_0.heap.FunFrames X.base X.outer
  frf : ∀ b ∈ X.fs, X.H_0 b = none

structure Inv (X : Cx) (pins : List (Addr × Obj)) (σ : List (Option V)) (H : Hp) (s : Shared) : Prop where
  ok : X.Ok
  os : s.os = X.s_0.os
  bare : AllBare s.gens
  base : Un X.fs X.ex X.H_0 H X.s_0.heap s.heap
  loc : ∃ m, s.heap.Ns X.env.locals m ∧ ∀ (i : Nat) (x : Str) (v : V), X.N[i]? = some x → σ[i]? = some (some v) → Vis X.env.scope x → ∃ u, RelV v u ∧ Look X.env s.heap m x u
  cell : ∀ x c, X.env.cells.lookup x = some c → ∃ v, s.heap.IsCell c v
  free : H X.env.locals = none
  freeC : ∀ x c, X.env.cells.lookup x = some c → H c = none
  pin : ∀ p ∈ X.pn ++ pins, s.heap.get? p.1 = some p.2 ∧ H p.1 = none ∧ p.1 ≠ X.env.locals ∧ p.1 ∉ X.fs ∧ ∀ v, p.2.data ≠ .cell v
  hok : HOk X.prog X.w H s.heap
  len : σ.length = X.N.length

section
variable {X : Cx} {pins : List (Addr × Obj)} {σ : List (Option V)} {H H' : Hp} {s : Shared} {h' : Heap}

theorem Cx.Ok.nofr (ok : X.Ok) {b : Addr} {o : Obj} (e : X.base.get? b = some o) : b ∉ X.fs := fun hb => by
  have := (ok.funs.mem hb).1
  rw [e] at this; cases this
theorem Inv.bs (I : Inv X pins σ H s) : ∀ b o, X.base.get? b = some o → s.heap.get? b = some o ∧ H b = none := fun b o e =>
  ⟨I.base.keep b o (I.ok.bs b o e).1 (I.ok.bs b o e).2 (I.ok.nofr e) (I.ok.noex b o e), I.base.free b o (I.ok.bs b o e).1 (I.ok.bs b o e).2 (I.ok.noex b o e)⟩
theorem Inv.bk (I : Inv X pins σ H s) : ∀ b o, X.base.get? b = some o → s.heap.get? b = some o := fun b o e => (I.bs b o e).1
theorem Inv.mod (I : Inv X pins σ H s) : Mod X.K X.mg X.base := I.ok.mod
theorem Inv.kIn (I : Inv X pins σ H s) : X.K.In s.heap := I.ok.mod.kin.keeps I.bk
theorem Inv.nolimit (I : Inv X pins σ H s) : s.heap.NoLimit := I.ok.mod.nolimit.keeps I.bk
/-- the frame over the base: for OpenK's rules (K.In X.base is I.mod.kin) -/
theorem Inv.fr (I : Inv X pins σ H s) : ∃ m, Fr X.base X.env.locals s.heap m :=
  let ⟨m, hn, _⟩ := I.loc
  ⟨m, hn, I.bk, Nat.le_trans I.ok.bsz I.ok.above⟩
theorem Inv.lt (I : Inv X pins σ H s) : X.env.locals < s.heap.objs.size := let ⟨_, hn, _⟩ := I.loc; hn.lt
theorem Inv.sz (I : Inv X pins σ H s) : X.s_0.heap.objs.size ≤ s.heap.objs.size := Nat.le_trans I.ok.above (Nat.le_of_lt I.lt)
theorem Inv.nofs (I : Inv X pins σ H s) {a : Addr} (h : s.heap.objs.size ≤ a) : a ∉ X.fs := fun hb => by
  obtain ⟨_, o, ho, _⟩ := I.ok.funs.mem hb
  exact absurd (Nat.lt_of_lt_of_le (Heap.lt_size ho) (Nat.le_trans I.sz h)) (Nat.lt_irrefl _)
theorem Inv.cne (I : Inv X pins σ H s) : ∀ x c, X.env.cells.lookup x = some c → c ≠ X.env.locals := fun x c e z => by
  obtain ⟨v, o, ho, hd⟩ := I.cell x c e
  obtain ⟨m, ⟨o', es, ep, ho', hd', _⟩, _⟩ := I.loc
  rw [z, ho'] at ho; cases ho; rw [hd'] at hd; cases hd
theorem Inv.funs (I : Inv X pins σ H s) : s.heap.FunFrames X.base X.outer := by
  have all : ∀ (l : List Env), (∀ b ∈ frs l, b ∈ X.fs) → X.s_0.heap.FunFrames X.base l → s.heap.FunFrames X.base l := by
    intro l
    induction l with
    | nil => intro _ _; trivial
    | cons env r ih =>
      intro hs hl
      obtain ⟨hk, ⟨L, o, hf, hn, ho, hd⟩, hr⟩ := hl
      have hL : L ∈ X.fs := hs L (by unfold frs; rw [List.filterMap_cons, hf]; exact List.mem_cons_self)
      obtain ⟨sl, e⟩ := I.base.slot L o ho (I.ok.frf L hL) hL fun z => I.ok.exfs L z hL
      exact ⟨hk, ⟨L, _, hf, hn, e, hd⟩, ih (fun b hb => hs b (by unfold frs; rw [List.filterMap_cons, hf]; exact List.mem_cons_of_mem _ hb)) hr⟩
  exact all X.outer (fun _ hb => hb) I.ok.funs

/-- the frames that run, for a call -/
theorem Inv.stack (I : Inv X pins σ H s) : s.heap.FunFrames X.base X.stack := by
  rcases I.ok.stk with e | ⟨e, hf⟩
  · rw [e]; exact I.funs
  · rw [e]
    obtain ⟨m, hn, _⟩ := I.loc
    refine .cons (by rw [I.ok.kind]; decide) hf hn ?_ I.funs
    exact Heap.get?_none_of_le (Nat.le_trans I.ok.bsz I.ok.above)
theorem Inv.stkSub (I : Inv X pins σ H s) : ∀ b ∈ frs X.stack, b ∈ X.env.locals :: X.fs := fun b hb => by
  rcases I.ok.stk with e | ⟨e, hf⟩
  · rw [e] at hb; exact List.mem_cons_of_mem _ hb
  · rw [e] at hb
    unfold frs at hb
    rw [List.filterMap_cons, hf] at hb
    exact hb
theorem Inv.stkFree (I : Inv X pins σ H s) : ∀ b ∈ frs X.stack, H b = none := fun b hb => by
  rcases List.mem_cons.mp (I.stkSub b hb) with e | hb
  · rw [e]; exact I.free
  · obtain ⟨_, o, ho, _⟩ := I.ok.funs.mem hb
    exact I.base.free b o ho (I.ok.frf b hb) fun z => I.ok.exfs b z hb

/-- THE STEP: the untracked objects but the frame and the records at ch are kept (the callers' frames up to slots), the frame's map is kept, the new abstract heap is held -/
theorem Inv.step {g' : Array GenState} {t' : Nat} {d' : Drawn} {ch : List Addr} (I : Inv X pins σ H s)
    (hch : ∀ b ∈ ch, (b ∈ X.ex ∨ X.s_0.heap.objs.size ≤ b) ∧ b ≠ X.env.locals ∧ (∀ x c, X.env.cells.lookup x = some c → c ≠ b) ∧ ∀ p ∈ X.pn ++ pins, p.1 ≠ b)
    (keep : ∀ b o, b ≠ X.env.locals → b ∉ X.fs → b ∉ ch → s.heap.get? b = some o → H b = none → h'.get? b = some o)
    (slot : ∀ b o, b ≠ X.env.locals → b ∈ X.fs → b ∉ ch → s.heap.get? b = some o → H b = none → ∃ sl, h'.get? b = some { o with slots := sl }) (free : ∀ b o, b ∉ ch → s.heap.get? b = some o → H b = none → H' b = none)
    (there : ∀ b o, b ∉ ch → s.heap.get? b = some o → ∃ o', h'.get? b = some o')
    (tups : ∀ b xs, H b = some (.tup xs) → H' b = some (.tup xs)) (frzs : ∀ b o u, H b = some (.frz o u) → H' b = some (.frz o u)) (tbls : ∀ b ps, H b = some (.tbl ps) → ∃ more, H' b = some (.tbl (ps ++ more)))
    (ns : ∀ m, s.heap.Ns X.env.locals m → h'.Ns X.env.locals m) (hok : HOk X.prog X.w H' h') (hg : AllBare g') :
    Inv X pins σ H' { s with heap := h', gens := g', drawn := d', toks := t' } := by
  have neL : ∀ b o, X.s_0.heap.get? b = some o → b ≠ X.env.locals := fun b o e => Nat.ne_of_lt (Nat.lt_of_lt_of_le (Heap.lt_size e) I.ok.above)
  have neC : ∀ b o, X.s_0.heap.get? b = some o → b ∉ X.ex → b ∉ ch := fun b o e hx hb => by
    rcases (hch b hb).1 with z | z
    · exact hx z
    · exact absurd (Nat.lt_of_lt_of_le (Heap.lt_size e) z) (Nat.lt_irrefl _)
  have cellK : ∀ x c, X.env.cells.lookup x = some c → ∀ v, s.heap.IsCell c v → h'.IsCell c v := fun x c e v ⟨o, ho, hd⟩ => by
    have nch : c ∉ ch := fun z => (hch c z).2.2.1 x c e rfl
    by_cases hc : c ∈ X.fs
    · obtain ⟨sl, q⟩ := slot c o (I.cne x c e) hc nch ho (I.freeC x c e)
      exact ⟨_, q, hd⟩
    · exact ⟨o, keep c o (I.cne x c e) hc nch ho (I.freeC x c e), hd⟩
  refine ⟨I.ok, I.os, hg, ⟨fun b o e n hb hx => ?_, fun b o e n hb hx => ?_, fun b o e n hx => ?_, fun b o e hx => ?_, fun b xs e => tups b xs (I.base.tups b xs e), fun b o xs e => frzs b o xs (I.base.frzs b o xs e), fun b ps e => ?_⟩, ?_, fun x c e => ?_, ?_, fun x c e => ?_, fun p hp => ?_, hok, I.len⟩
  · exact keep b o (neL b o e) hb (neC b o e hx) (I.base.keep b o e n hb hx) (I.base.free b o e n hx)
  · obtain ⟨sl, e1⟩ := I.base.slot b o e n hb hx
    obtain ⟨sl', e2⟩ := slot b _ (neL b o e) hb (neC b o e hx) e1 (I.base.free b o e n hx)
    exact ⟨sl', e2⟩
  · obtain ⟨o', e1⟩ := I.base.there b o e hx
    exact free b o' (neC b o e hx) e1 (I.base.free b o e n hx)
  · obtain ⟨o', e1⟩ := I.base.there b o e hx
    exact there b o' (neC b o e hx) e1
  · obtain ⟨m1, e1⟩ := I.base.tbls b ps e
    obtain ⟨m2, e2⟩ := tbls b _ e1
    exact ⟨m1 ++ m2, by rw [e2, Array.append_assoc]⟩
  · obtain ⟨m, hn, hl⟩ := I.loc
    refine ⟨m, ns m hn, fun i x v e1 e2 e3 => ?_⟩
    obtain ⟨u, r, l⟩ := hl i x v e1 e2 e3
    refine ⟨u, r, ?_⟩
    rcases l with l | ⟨k, c, e, z⟩
    · exact .inl l
    · exact .inr ⟨k, c, e, cellK x c e _ z⟩
  · obtain ⟨v, z⟩ := I.cell x c e
    exact ⟨v, cellK x c e v z⟩
  · obtain ⟨m, ⟨o, _, _, ho, _⟩, _⟩ := I.loc
    exact free _ o (fun z => (hch _ z).2.1 rfl) ho I.free
  · obtain ⟨v, o, ho, hd⟩ := I.cell x c e
    exact free c o (fun z => (hch c z).2.2.1 x c e rfl) ho (I.freeC x c e)
  · obtain ⟨e, n, ne, nf, d⟩ := I.pin p hp
    have nch : p.1 ∉ ch := fun z => (hch p.1 z).2.2.2 p hp rfl
    exact ⟨keep p.1 p.2 ne nf nch e n, free p.1 p.2 nch e n, ne, nf, d⟩
/-- .. where the frame's own object is kept too -/
theorem Inv.un {t' : Nat} (I : Inv X pins σ H s) (u : Un X.fs [] H H' s.heap h') (hok : HOk X.prog X.w H' h') : Inv X pins σ H' { s with heap := h', toks := t' } := by
  obtain ⟨m, ⟨o, es, ep, ho, r⟩, _⟩ := id I.loc
  obtain ⟨sl, hL⟩ := u.any ho I.free (by simp)
  exact I.step (g' := s.gens) (d' := s.drawn) (ch := []) (fun _ z => nomatch z) (fun b o _ hb _ e n => u.keep b o e n hb (by simp)) (fun b o _ hb _ e n => u.slot b o e n hb (by simp)) (fun b o _ e n => u.free b o e n (by simp)) (fun b o _ e => u.there b o e (by simp)) u.tups u.frzs u.tbls (fun m' hm => by
    obtain ⟨o', es', ep', ho', r'⟩ := hm
    rw [ho] at ho'; cases ho'
    exact ⟨_, es', ep', hL, r'⟩) hok I.bare
/-- behind a call (or a comprehension's block): the slots of this frame may have changed too, the records at ch may have turned -/
theorem Inv.call {g' : Array GenState} {t' : Nat} {d' : Drawn} {ch : List Addr} (I : Inv X pins σ H s) (u : Un (frs X.stack) ch H H' s.heap h') (hok : HOk X.prog X.w H' h') (hg : AllBare g')
    (hch : ∀ b ∈ ch, (b ∈ X.ex ∨ X.s_0.heap.objs.size ≤ b) ∧ b ≠ X.env.locals ∧ (∀ x c, X.env.cells.lookup x = some c → c ≠ b) ∧ ∀ p ∈ X.pn ++ pins, p.1 ≠ b) :
    Inv X pins σ H' { s with heap := h', gens := g', drawn := d', toks := t' } := by
  obtain ⟨m, ⟨o, es, ep, ho, r⟩, _⟩ := id I.loc
  obtain ⟨sl, hL⟩ := u.any ho I.free fun z => (hch _ z).2.1 rfl
  exact I.step (ch := ch) hch (fun b o hL hb hc e n => u.keep b o e n (fun z => (List.mem_cons.mp (I.stkSub b z)).elim hL hb) hc) (fun b o _ _ hc e n => u.any e n hc) (fun b o hc e n => u.free b o e n hc) (fun b o hc e => u.there b o e hc) u.tups u.frzs u.tbls (fun m' hm => by
    obtain ⟨o', es', ep', ho', r'⟩ := hm
    rw [ho] at ho'; cases ho'
    exact ⟨_, es', ep', hL, r'⟩) hok hg
/-- an untracked record of ours (an iterator) has turned -/
theorem Inv.turned {t' : Nat} {it : Addr} (I : Inv X pins σ H s) (k : ∀ b o, b ≠ it → s.heap.get? b = some o → h'.get? b = some o) (hn : H it = none) (hL : it ≠ X.env.locals)
    (h1 : it ∈ X.ex ∨ X.s_0.heap.objs.size ≤ it) (h2 : ∀ x c, X.env.cells.lookup x = some c → c ≠ it) (h3 : ∀ p ∈ X.pn ++ pins, p.1 ≠ it) : Inv X pins σ H { s with heap := h', toks := t' } := by
  have nit : ∀ b u, H b = some u → b ≠ it := fun b u e z => by rw [z, hn] at e; cases e
  refine I.step (g' := s.gens) (d' := s.drawn) (ch := [it]) (fun b hb => ?_) (fun b o _ _ hc e _ => k b o (fun z => hc (by simp [z])) e) (fun b o _ _ hc e _ => ⟨o.slots, k b o (fun z => hc (by simp [z])) e⟩) (fun _ _ _ _ n => n)
    (fun b o hc e => ⟨o, k b o (fun z => hc (by simp [z])) e⟩) (fun _ _ e => e) (fun _ _ _ e => e) (fun b ps e => ⟨#[], by rw [e]; simp⟩) (fun m hm => ?_) (fun b u e => ?_) I.bare
  · have e : b = it := by simpa using hb
    subst e
    exact ⟨h1, hL, h2, h3⟩
  · obtain ⟨o, es, ep, ho, r⟩ := hm
    exact ⟨o, es, ep, k _ o (Ne.symm hL) ho, r⟩
  · refine (I.hok b u e).stay (fun c v hc q => k c v ?_ q) (fun _ q => q) fun _ _ q => q
    rcases hc with z | z
    · rw [z]; exact nit b u e
    · exact nit c _ z
theorem Inv.tok (I : Inv X pins σ H s) (t : Nat) : Inv X pins σ H { s with toks := t } := I.un (h' := s.heap) (t' := t) Un.refl I.hok
/-- all objects kept -/
theorem Inv.kept {t' : Nat} (I : Inv X pins σ H s) (k : ∀ b u, s.heap.get? b = some u → h'.get? b = some u) : Inv X pins σ H { s with heap := h', toks := t' } := I.un (Un.kept k) (I.hok.kept k)
/-- a new object laid and tracked -/
theorem Inv.laid {a : Addr} {o : HO} {t' : Nat} (I : Inv X pins σ H s) (k : ∀ b u, s.heap.get? b = some u → h'.get? b = some u) (hp : s.heap.objs.size ≤ a) (new : ObjOk X.prog X.w (upd H a o) h' a o) :
    Inv X pins σ (upd H a o) { s with heap := h', toks := t' } := I.un (Un.laid k hp (I.hok.fresh hp)) (I.hok.laid k hp new)
/-- an object written -/
theorem Inv.write {x e : Addr} {o : HO} {t' : Nat} (I : Inv X pins σ H s) (mu : Mut (H x)) (he : e = x ∨ H e = some (.own x)) (k : ∀ b u, b ≠ e → s.heap.get? b = some u → h'.get? b = some u) (heo : ∃ u, h'.get? e = some u)
    (new : ObjOk X.prog X.w (upd H x o) h' x o) : Inv X pins σ (upd H x o) { s with heap := h', toks := t' } := I.un (Un.write mu he k heo) (I.hok.write mu he k heo new)
/-- forgetting slots, pins -/
theorem Inv.weak {σ' : List (Option V)} (I : Inv X pins σ H s) (hl : σ'.length = σ.length) (w : ∀ (i : Nat) v, σ'[i]? = some (some v) → σ[i]? = some (some v)) : Inv X pins σ' H s :=
  ⟨I.ok, I.os, I.bare, I.base, let ⟨m, hn, hl'⟩ := I.loc; ⟨m, hn, fun i x v e1 e2 e3 => hl' i x v e1 (w i v e2) e3⟩, I.cell, I.free, I.freeC, I.pin, I.hok, hl.trans I.len⟩
theorem Inv.pins_of {pins' : List (Addr × Obj)} (I : Inv X pins σ H s) (h : ∀ p ∈ pins', s.heap.get? p.1 = some p.2 ∧ H p.1 = none ∧ p.1 ≠ X.env.locals ∧ p.1 ∉ X.fs ∧ ∀ v, p.2.data ≠ .cell v) : Inv X pins' σ H s :=
  ⟨I.ok, I.os, I.bare, I.base, I.loc, I.cell, I.free, I.freeC, fun p hp => (List.mem_append.mp hp).elim (fun z => I.pin p (List.mem_append_left _ z)) (h p), I.hok, I.len⟩

theorem nodup_ix {N : List Str} (hN : N.Nodup) {i j : Nat} {x : Str} (a : N[i]? = some x) (b : N[j]? = some x) : i = j := by
  obtain ⟨h1, e1⟩ := List.getElem?_eq_some_iff.mp a
  obtain ⟨h2, e2⟩ := List.getElem?_eq_some_iff.mp b
  exact (List.getElem_inj hN).mp (e1.trans e2.symm)

/-- a name is stored; what changed -/
theorem store_ok2 {M : Model} {A : Around} {E : Value → Shared → Prop} {i : Nat} {x : Str} {v : V} {u : Value} {Q : Unit → Shared → Prop} (I : Inv X pins σ H s) (hN : X.N.Nodup) (hi : X.N[i]? = some x) (hx : Loc X.env.scope x) (r : RelV v u)
    (h : ∀ s', Inv X pins (σ.set i (some v)) H s' → (∃ a, Heap.SameBut a s.heap s'.heap ∧ (a = X.env.locals ∨ X.env.cells.lookup x = some a)) → Q () s') (hf : X.fn x = true ∨ X.env.scope.names.lookup x = some .local := by first | exact .inl rfl | exact .inr rfl | assumption) : wpAny M A (storeName X.env x u) Q E s := by
  obtain ⟨m, hn, hl⟩ := id I.loc
  have hcls : (X.env.scope.kind == .class || (X.env.scope.kind == .module && X.env.locals != X.env.globals)) = false := by rw [I.ok.kind]; rfl
  have hiσ : i < σ.length := by rw [I.len]; exact (List.getElem?_eq_some_iff.mp hi).1
  have cne := I.cne
  have tracked : ∀ {a : Addr} {h' : Heap}, (∃ o, s.heap.get? a = some o ∧ H a = none) → Heap.SameBut a s.heap h' → HOk X.prog X.w H h' := fun {a h'} ha hs b ob e => by
    obtain ⟨_, _, hfree⟩ := ha
    refine (I.hok b ob e).stay (fun c w' hc q => (hs.2 c ?_).trans q) (fun _ q => q) fun _ _ q => q
    rintro rfl
    rcases hc with rfl | hc
    · rw [hfree] at e; cases e
    · rw [hfree] at hc; cases hc
  rcases hx with hk | hk
  · refine wpAny_storeName_local hk hn (fun h' hn' hs => ?_) hcls
    obtain ⟨oL, _, _, hoL, _⟩ := id hn
    refine h _ ⟨I.ok, I.os, I.bare, ⟨fun b o e n hb hx => ?_, fun b o e n hb hx => ?_, I.base.free, fun b o e hx => ?_, I.base.tups, I.base.frzs, I.base.tbls⟩, ⟨_, hn', fun j y v' e1 e2 e3 => ?_⟩, fun y c e => ?_, I.free, I.freeC, fun p hp => ?_, tracked ⟨oL, hoL, I.free⟩ hs, by simpa using I.len⟩ ⟨_, hs, .inl rfl⟩
    · exact (hs.2 b (Nat.ne_of_lt (Nat.lt_of_lt_of_le (Heap.lt_size e) I.ok.above))).trans (I.base.keep b o e n hb hx)
    · obtain ⟨sl, e1⟩ := I.base.slot b o e n hb hx
      exact ⟨sl, (hs.2 b (Nat.ne_of_lt (Nat.lt_of_lt_of_le (Heap.lt_size e) I.ok.above))).trans e1⟩
    · obtain ⟨o', e1⟩ := I.base.there b o e hx
      exact ⟨o', (hs.2 b (Nat.ne_of_lt (Nat.lt_of_lt_of_le (Heap.lt_size e) I.ok.above))).trans e1⟩
    · by_cases hj : j = i
      · subst hj
        rw [hi] at e1; cases e1
        rw [List.getElem?_set_self hiσ] at e2
        cases e2
        exact ⟨u, r, .inl ⟨hk, by simp⟩⟩
      · rw [List.getElem?_set_ne (Ne.symm hj)] at e2
        obtain ⟨u', r', q⟩ := hl j y v' e1 e2 e3
        refine ⟨u', r', ?_⟩
        rcases q with ⟨k, e⟩ | ⟨k, c, e, z⟩
        · refine .inl ⟨k, ?_⟩
          have : y ≠ x := fun e => hj (nodup_ix hN e1 (e ▸ hi))
          simp [this, e]
        · exact .inr ⟨k, c, e, z.sameBut hs (cne y c e)⟩
    · obtain ⟨w', z⟩ := I.cell y c e
      exact ⟨w', z.sameBut hs (cne y c e)⟩
    · obtain ⟨e, n, ne, nf, d⟩ := I.pin p hp
      exact ⟨(hs.2 p.1 ne).trans e, n, ne, nf, d⟩
  · have hfn : X.fn x = true := by
      rcases hf with z | z
      · exact z
      · rw [z] at hk; cases hk
    obtain ⟨c, hc⟩ := I.ok.has x (.inl hk)
    obtain ⟨w', z⟩ := I.cell x c hc
    refine wpAny_storeName_cell I.ok.kind hk hc z (fun h' hc' hs => ?_)
    obtain ⟨oc, hoc, hocd⟩ := id z
    refine h { s with heap := h' } ⟨I.ok, I.os, I.bare, ⟨fun b o e n hb hx => ?_, fun b o e n hb hx => ?_, I.base.free, fun b o e hx => ?_, I.base.tups, I.base.frzs, I.base.tbls⟩, ⟨m, hn.sameBut hs (Ne.symm (cne x c hc)), fun j y v' e1 e2 e3 => ?_⟩, fun y c' e => ?_, I.free, I.freeC, fun p hp => ?_, tracked ⟨oc, hoc, I.freeC x c hc⟩ hs, by simpa using I.len⟩ ⟨c, hs, .inr hc⟩
    · exact (hs.2 b (Nat.ne_of_lt (Nat.lt_of_lt_of_le (Heap.lt_size e) (I.ok.cab x c hfn hc)))).trans (I.base.keep b o e n hb hx)
    · obtain ⟨sl, e1⟩ := I.base.slot b o e n hb hx
      exact ⟨sl, (hs.2 b (Nat.ne_of_lt (Nat.lt_of_lt_of_le (Heap.lt_size e) (I.ok.cab x c hfn hc)))).trans e1⟩
    · obtain ⟨o', e1⟩ := I.base.there b o e hx
      exact ⟨o', (hs.2 b (Nat.ne_of_lt (Nat.lt_of_lt_of_le (Heap.lt_size e) (I.ok.cab x c hfn hc)))).trans e1⟩
    · by_cases hj : j = i
      · subst hj
        rw [hi] at e1; cases e1
        rw [List.getElem?_set_self hiσ] at e2
        cases e2
        exact ⟨u, r, .inr ⟨.inl hk, c, hc, hc'⟩⟩
      · rw [List.getElem?_set_ne (Ne.symm hj)] at e2
        obtain ⟨u', r', q⟩ := hl j y v' e1 e2 e3
        refine ⟨u', r', ?_⟩
        rcases q with q | ⟨k, c', e, z'⟩
        · exact .inl q
        · refine .inr ⟨k, c', e, z'.sameBut hs ?_⟩
          rintro rfl
          exact hj (nodup_ix hN e1 (I.ok.inj _ _ _ e hc ▸ hi))
    · by_cases hcc : c' = c
      · subst hcc; exact ⟨_, hc'⟩
      · obtain ⟨w2, z2⟩ := I.cell y c' e
        exact ⟨w2, z2.sameBut hs hcc⟩
    · obtain ⟨e, n, ne, nf, d⟩ := I.pin p hp
      refine ⟨(hs.2 p.1 ?_).trans e, n, ne, nf, d⟩
      intro q
      rw [q, hoc] at e
      have q' : oc = p.2 := Option.some.inj e
      exact d w' (by rw [← q']; exact hocd)
theorem store_ok {M : Model} {A : Around} {E : Value → Shared → Prop} {i : Nat} {x : Str} {v : V} {u : Value} {Q : Unit → Shared → Prop} (I : Inv X pins σ H s) (hN : X.N.Nodup) (hi : X.N[i]? = some x) (hx : Loc X.env.scope x) (r : RelV v u)
    (h : ∀ s', Inv X pins (σ.set i (some v)) H s' → Q () s') (hf : X.fn x = true ∨ X.env.scope.names.lookup x = some .local := by first | exact .inl rfl | exact .inr rfl | assumption) : wpAny M A (storeName X.env x u) Q E s :=
  store_ok2 I hN hi hx r (fun s' I' _ => h s' I') hf
/-- behind a call or a block, the state as it is -/
theorem Inv.call' {s' : Shared} {ch : List Addr} (I : Inv X pins σ H s) (ho : s'.os = s.os) (u : Un (frs X.stack) ch H H' s.heap s'.heap) (hok : HOk X.prog X.w H' s'.heap) (hg : AllBare s'.gens)
    (hch : ∀ b ∈ ch, (b ∈ X.ex ∨ X.s_0.heap.objs.size ≤ b) ∧ b ≠ X.env.locals ∧ (∀ x c, X.env.cells.lookup x = some c → c ≠ b) ∧ ∀ p ∈ X.pn ++ pins, p.1 ≠ b) : Inv X pins σ H' s' := by
  obtain ⟨h', g', d', t', o'⟩ := s'
  have e : o' = s.os := ho
  subst e
  exact I.call (g' := g') (t' := t') (d' := d') u hok hg hch
end

/-! ### the judgements -/
/-- an exception: its class, its own dict's address (where it has one), the abstract heap behind it -/
abbrev XK := Value → Option Addr → Hp → Prop
abbrev St := List (Option V)
abbrev VK := V → Hp → Prop
/-- an expression's reading; a test's; an argument list's -/
abbrev TE := St → Hp → VK → Prop
abbrev TT := St → Hp → (Bool → Hp → Prop) → Prop
abbrev TA := St → Hp → (List V → Hp → Prop) → Prop
/-- what is wanted behind a statement -/
structure Ends where
  nx : St → Hp → Prop
  rt : VK
  bk : St → Hp → Prop := fun _ _ => False
  ct : St → Hp → Prop := fun _ _ => False
abbrev TS := Ends → St → Hp → Prop

inductive EP (X : Cx) (pins : List (Addr × Obj)) (σ : St) (Q : VK) (u : Value) (s' : Shared) : Prop
  | mk (v : V) (H' : Hp) (I : Inv X pins σ H' s') (r : RelV v u) (q : Q v H') : EP X pins σ Q u s'
inductive TP (X : Cx) (pins : List (Addr × Obj)) (σ : St) (Q : Bool → Hp → Prop) (b : Bool) (s' : Shared) : Prop
  | mk (H' : Hp) (I : Inv X pins σ H' s') (q : Q b H') : TP X pins σ Q b s'
inductive AP (X : Cx) (pins : List (Addr × Obj)) (σ : St) (Q : List V → Hp → Prop) (us : List Value) (s' : Shared) : Prop
  | mk (vs : List V) (H' : Hp) (I : Inv X pins σ H' s') (r : Vals vs us) (q : Q vs H') : AP X pins σ Q us s'
inductive SPn (X : Cx) (pins : List (Addr × Obj)) (N : St → Hp → Prop) (s' : Shared) : Prop
  | mk (σ' : St) (H' : Hp) (I : Inv X pins σ' H' s') (q : N σ' H') : SPn X pins N s'
inductive SPr (X : Cx) (pins : List (Addr × Obj)) (R : VK) (u : Value) (s' : Shared) : Prop
  | mk (v : V) (σ' : St) (H' : Hp) (I : Inv X pins σ' H' s') (r : RelV v u) (q : R v H') : SPr X pins R u s'
def SP (X : Cx) (pins : List (Addr × Obj)) (D : Ends) (f : Flow) (s' : Shared) : Prop :=
  match f with
  | .next => SPn X pins D.nx s'
  | .brk => SPn X pins D.bk s'
  | .cont => SPn X pins D.ct s'
  | .ret u => SPr X pins D.rt u s'

def PE (X : Cx) (e : Expr) (t : TE) : Prop :=
  ∀ (pins : List (Addr × Obj)) (s : Shared) (σ : St) (H : Hp) (Q : VK), Inv X pins σ H s → t σ H Q → wpAny (model X.prog X.w) X.A (eval e X.env) (EP X pins σ Q) X.xe s
def PT (X : Cx) (e : Expr) (t : TT) : Prop :=
  ∀ (pins : List (Addr × Obj)) (s : Shared) (σ : St) (H : Hp) (Q : Bool → Hp → Prop), Inv X pins σ H s → t σ H Q → wpAny (model X.prog X.w) X.A (isTrue e X.env (eval e X.env)) (TP X pins σ Q) X.xe s
/-- a test whatever its 'whole' is (and, or) -/
def PW (X : Cx) (e : Expr) (t : TT) : Prop :=
  ∀ (whole : Sem Value) (pins : List (Addr × Obj)) (s : Shared) (σ : St) (H : Hp) (Q : Bool → Hp → Prop), Inv X pins σ H s → t σ H Q → wpAny (model X.prog X.w) X.A (isTrue e X.env whole) (TP X pins σ Q) X.xe s
theorem PW.pt {X : Cx} {e : Expr} {t : TT} (h : PW X e t) : PT X e t := h _
/-- an argument list (no star), from the left -/
def PA (X : Cx) (es : List Expr) (t : TA) : Prop :=
  ∀ (pos : Pos) (pins : List (Addr × Obj)) (s : Shared) (σ : St) (H : Hp) (Q : List V → Hp → Prop), Inv X pins σ H s → t σ H Q → wpAny (model X.prog X.w) X.A (spliced (backTo pos (starEach es X.env))) (AP X pins σ Q) X.xe s
def PS (X : Cx) (st : Stmt) (t : TS) : Prop :=
  ∀ (pins : List (Addr × Obj)) (s : Shared) (σ : St) (H : Hp) (D : Ends), Inv X pins σ H s → t D σ H → wpAny (model X.prog X.w) X.A (exec st X.env) (SP X pins D) X.xe s
def PSs (X : Cx) (st : List Stmt) (t : TS) : Prop :=
  ∀ (pins : List (Addr × Obj)) (s : Shared) (σ : St) (H : Hp) (D : Ends), Inv X pins σ H s → t D σ H → wpAny (model X.prog X.w) X.A (execs st X.env) (SP X pins D) X.xe s
/-- weaken the end -/
theorem thn {α : Type} {t : Sem α} {Q Q' : α → Shared → Prop} {M : Model} {A : Around} {E : Value → Shared → Prop} {s : Shared} (h : wpAny M A t Q E s) (hQ : ∀ a s, Q a s → Q' a s) : wpAny M A t Q' E s := wpAny_mono h hQ fun _ _ x => x
end L2

namespace L2
open PySem PySem.Spec PyProof.Rows
section
variable {X : Cx}

/-- two expressions in a row -/
theorem bin {a b : Expr} {ta tb : TE} (ha : PE X a ta) (hb : PE X b tb) {pins : List (Addr × Obj)} {s : Shared} {σ : St} {H : Hp} {R : V → V → Hp → Prop} (I : Inv X pins σ H s) (h : ta σ H fun x H1 => tb σ H1 fun y H2 => R x y H2)
    {α : Type} {Q : α → Shared → Prop} {f : Value → Value → Sem α}
    (hf : ∀ v u s2 x y H2, Inv X pins σ H2 s2 → RelV x v → RelV y u → R x y H2 → wpAny (model X.prog X.w) X.A (f v u) Q X.xe s2) :
    wpAny (model X.prog X.w) X.A (eval a X.env) (fun v s₁ => wpAny (model X.prog X.w) X.A (eval b X.env) (fun u s₂ => wpAny (model X.prog X.w) X.A (f v u) Q X.xe s₂) X.xe s₁) X.xe s := by
  refine thn (ha pins s σ H _ I h) fun v s1 hq9 => ?_
  obtain ⟨x, H1, I1, r1, q1⟩ := hq9
  refine thn (hb pins s1 σ H1 _ I1 q1) fun u s2 hq9 => ?_
  obtain ⟨y, H2, I2, r2, q2⟩ := hq9
  exact hf v u s2 x y H2 I2 r1 r2 q2

/-! ### names and constants -/
inductive VarR (i : Nat) (σ : St) (H : Hp) (Q : VK) : Prop
  | mk (v : V) (h : σ[i]? = some (some v)) (q : Q v H) : VarR i σ H Q
def tVar (i : Nat) : TE := VarR i
def tC (v : V) : TE := fun _ H Q => Q v H
theorem pe_var {i : Nat} {x : Str} {pos : Pos} (hN : X.N[i]? = some x) (hv : Vis X.env.scope x) (hd : (x == ("__debug__" : Str)) = false := by decide) (hcd : (x == ("__classdict__" : Str)) = false := by decide) : PE X (.Name x pos) (tVar i) := by
  intro pins s σ H Q I h
  obtain ⟨v, e, h⟩ := h
  obtain ⟨m, hn, hl⟩ := I.loc
  obtain ⟨u, r, l⟩ := hl i x v hN e hv
  have fin : EP X pins σ Q u s := ⟨v, H, I, r, h⟩
  rcases l with ⟨hk, hm⟩ | ⟨hk, c, hc, hcell⟩
  · exact wpAny_Name (wpAny_loadName_local I.ok.kind hk hn hm fin) hd
  · rcases hk with hk | hk
    · exact wpAny_Name (wpAny_loadName_cell I.ok.kind hk hc hcell fin) hd
    · exact wpAny_Name (wpAny_loadName_free I.ok.kind hk hc hcell fin hcd) hd
theorem pe_int {i j pos} : PE X (.Constant (.int i) j pos) (tC (.int i)) := fun _ _ _ H _ I h => wpAny_Constant_int ⟨.int i, H, I.tok _, ⟨_, rfl⟩, h⟩
theorem pe_bl {b j pos} : PE X (.Constant (.bool b) j pos) (tC (.bl b)) := fun _ _ _ H _ I h => Constant_bool ⟨.bl b, H, I, rfl, h⟩
theorem pe_non {j pos} : PE X (.Constant .none j pos) (tC .non) := fun _ _ _ H _ I h => Constant_none ⟨.non, H, I, rfl, h⟩
theorem pe_str {x j pos} : PE X (.Constant (.str x) j pos) (tC (.str x)) := fun _ _ _ H _ I h => Calls.Constant_str ⟨.str x, H, I.tok _, ⟨_, rfl⟩, h⟩

/-- a global name of the def -/
def Gl (X : Cx) (x : Str) : Prop := X.env.kindOf x = some .globalImplicit
theorem ld_glob {E : Value → Shared → Prop} {pins : List (Addr × Obj)} {s : Shared} {σ : St} {H : Hp} {x : Str} {u : Value} {pos : Pos} {Q : Value → Shared → Prop} (I : Inv X pins σ H s) (hg : Gl X x) (hm : X.mg x = some u) (h : Q u s)
    (hd : (x == ("__debug__" : Str)) = false := by decide) : wpAny (model X.prog X.w) X.A (eval (.Name x pos) X.env) Q E s :=
  Calls.Name_function_global I.ok.kind hg (Calls.loadGlobal_global (by rw [I.ok.glob]; exact I.mod.glob.keeps I.bk) hm h) hd
theorem ld_blt {E : Value → Shared → Prop} {pins : List (Addr × Obj)} {s : Shared} {σ : St} {H : Hp} {x : Str} {u : Value} {pos : Pos} {Q : Value → Shared → Prop} (I : Inv X pins σ H s) (hg : Gl X x) (hm : X.mg x = none) (hv : bootBuiltins x = some u) (h : Q u s)
    (hn : x ≠ "__name__" := by decide) (hd : (x == ("__debug__" : Str)) = false := by decide) : wpAny (model X.prog X.w) X.A (eval (.Name x pos) X.env) Q E s := by
  obtain ⟨mb, h1, h2⟩ := I.mod.blt
  exact Calls.Name_function_global I.ok.kind hg (Calls.loadGlobal_builtin (by rw [I.ok.glob]; exact I.mod.glob.keeps I.bk) hm (by rw [I.ok.blt]; exact h1.keeps I.bk) ((h2 x hn).trans hv) h) hd
/-- a module's constant, a class, a function, as a value -/
theorem pe_glob {x : Str} {v : V} {u : Value} {pos : Pos} (hg : Gl X x) (hm : X.mg x = some u) (r : RelV v u) (hd : (x == ("__debug__" : Str)) = false := by decide) : PE X (.Name x pos) (tC v) :=
  fun _ _ _ H _ I h => ld_glob I hg hm ⟨v, H, I, r, h⟩ hd

/-! ### arithmetic -/
variable {a b : Expr} {ta tb : TE} {pos : Pos}

/-! ### comparisons -/
def PC (X : Cx) (op : CmpOp) (a b : Expr) (t : TE) : Prop :=
  ∀ (pins : List (Addr × Obj)) (s : Shared) (σ : St) (H : Hp) (Q : VK), Inv X pins σ H s → t σ H Q →
    wpAny (model X.prog X.w) X.A (eval a X.env) (fun v s₁ => wpAny (model X.prog X.w) X.A (eval b X.env) (fun u s₂ => wpAny (model X.prog X.w) X.A (compareOp op v u) (EP X pins σ Q) X.xe s₂) X.xe s₁) X.xe s
theorem nobehind (b : Expr) {op : CmpOp} (h : op ≠ .In) (h2 : op ≠ .NotIn) : behindInMarks op b = false := by
  have e1 : (op == CmpOp.In) = false := by cases op <;> first | rfl | exact absurd rfl h
  have e2 : (op == CmpOp.NotIn) = false := by cases op <;> first | rfl | exact absurd rfl h2
  cases b <;> simp [behindInMarks, e1, e2]
/-- is None -/
def tIsN (ta : TE) : TE := fun σ H Q => ta σ H fun x H1 => Q (.bl (decide (x = .non))) H1
theorem RelV.none_iff {x : V} {v : Value} (r : RelV x v) : (v == Value.none) = decide (x = .non) := by
  cases x with
  | non => cases r; rfl
  | bl _ => cases r; rfl
  | int _ => obtain ⟨t, rfl⟩ := r; rfl
  | str _ => obtain ⟨t, rfl⟩ := r; rfl
  | byt _ => obtain ⟨t, rfl⟩ := r; rfl
  | flt _ => obtain ⟨t, rfl⟩ := r; rfl
  | ref _ => cases r; rfl
  | ty _ => cases r; rfl
theorem pc_isN {j pos'} (ha : PE X a ta) : PC X .Is a (.Constant .none j pos') (tIsN ta) := by
  intro pins s σ H Q I h
  refine thn (ha pins s σ H _ I h) fun v s1 hq9 => ?_
  obtain ⟨x, H1, I1, r1, q1⟩ := hq9
  exact Constant_none (is_none_gen ⟨.bl _, H1, I1, by rw [r1.none_iff]; rfl, q1⟩)
/-- a comparison as a value, as a test -/
def tB (t : TE) : TT := fun σ H Q => t σ H fun x H1 => ∃ c, x = .bl c ∧ Q c H1
theorem pt_cmp {op : CmpOp} {t : TE} (h : PC X op a b t) (h1 : behindInMarks op b = false := by first | exact nobehind _ (by decide) (by decide) | rfl) : PT X (.Compare a [op] [b] pos) (tB t) := by
  intro pins s σ H Q I hw
  refine wpAny_isTrue_Compare1 (thn (h pins s σ H _ I hw) fun v s1 h1 => thn h1 fun u s2 h2 => thn h2 fun c s3 hq9 => ?_) h1
  obtain ⟨x, H1, I1, r1, q1⟩ := hq9
  obtain ⟨d, rfl, q⟩ := q1
  cases r1
  exact wpAny_truthy_bool ⟨H1, I1, q⟩
/-- an expression whose value is a bool, as a test -/
theorem pt_val {e : Expr} {t : TE} (h : PE X e t) (he : ∀ whole, isTrue e X.env whole = (do let v ← whole; standAt e.pos; holding [v] (truthy v)) := by intro _; rfl) : PT X e (tB t) := by
  intro pins s σ H Q I hw
  refine isTrue_plain (thn (h pins s σ H _ I hw) fun v s1 hq9 => ?_) (he _)
  obtain ⟨x, H1, I1, r1, q1⟩ := hq9
  obtain ⟨d, rfl, q⟩ := q1
  cases r1
  exact wpAny_truthy_bool ⟨H1, I1, q⟩

/-! ### and, or, not -/
variable {tA tB' : TT} {rest : List Expr}
def tAnd (t u : TT) : TT := fun σ H Q => t σ H fun c H1 => if c = true then u σ H1 Q else Q false H1
def tOr (t u : TT) : TT := fun σ H Q => t σ H fun c H1 => if c = true then Q true H1 else u σ H1 Q
def tNot (t : TT) : TT := fun σ H Q => t σ H fun c H1 => Q (!c) H1
theorem pw_and1 (ha : PT X a tA) : PW X (.BoolOp .And [a] pos) tA := by
  intro wh pins s σ H Q I h
  refine isTrue_and (thn (ha pins s σ H Q I h) fun c s1 e => ?_)
  cases c with
  | true => exact isTrue_and_nil e
  | false => exact e
theorem pw_or1 (ha : PT X a tA) : PW X (.BoolOp .Or [a] pos) tA := by
  intro wh pins s σ H Q I h
  refine isTrue_or (thn (ha pins s σ H Q I h) fun c s1 e => ?_)
  cases c with
  | false => exact isTrue_or_nil e
  | true => exact e
theorem pw_and (ha : PT X a tA) (hb : PW X (.BoolOp .And (b :: rest) pos) tB') : PW X (.BoolOp .And (a :: b :: rest) pos) (tAnd tA tB') := by
  intro wh pins s σ H Q I h
  refine isTrue_and (thn (ha pins s σ H _ I h) fun c s1 hq9 => ?_)
  obtain ⟨H1, I1, q1⟩ := hq9
  cases c with
  | true => exact hb wh pins s1 σ H1 Q I1 q1
  | false => exact ⟨H1, I1, q1⟩
theorem pw_or (ha : PT X a tA) (hb : PW X (.BoolOp .Or (b :: rest) pos) tB') : PW X (.BoolOp .Or (a :: b :: rest) pos) (tOr tA tB') := by
  intro wh pins s σ H Q I h
  refine isTrue_or (thn (ha pins s σ H _ I h) fun c s1 hq9 => ?_)
  obtain ⟨H1, I1, q1⟩ := hq9
  cases c with
  | true => exact ⟨H1, I1, q1⟩
  | false => exact hb wh pins s1 σ H1 Q I1 q1
theorem pt_not (ha : PT X a tA) : PT X (.UnaryOp .Not a pos) (tNot tA) := by
  intro pins s σ H Q I h
  exact isTrue_not (thn (ha pins s σ H (fun c H1 => Q (!c) H1) I h) fun c s1 ⟨H1, I1, q1⟩ => ⟨H1, I1, q1⟩)
def tOrV (ta tb : TE) : TE := fun σ H Q => ta σ H fun x H1 => ∃ c, x = .bl c ∧ if c = true then Q (.bl true) H1 else tb σ H1 Q
theorem pe_one {op} {t : TE} (h : PE X a t) : PE X (.BoolOp op [a] pos) t := fun pins s σ H Q I hw => BoolOp_one (h pins s σ H Q I hw)
theorem pe_or (ha : PE X a ta) (hb : PE X (.BoolOp .Or (b :: rest) pos) tb) : PE X (.BoolOp .Or (a :: b :: rest) pos) (tOrV ta tb) := by
  intro pins s σ H Q I h
  refine BoolOp_or (thn (ha pins s σ H _ I h) fun v s1 hq9 => ?_)
  obtain ⟨x, H1, I1, r1, q1⟩ := hq9
  obtain ⟨c, rfl, q1⟩ := q1
  cases r1
  refine wpAny_truthy_bool ?_
  cases c with
  | false => exact hb pins s1 σ H1 Q I1 q1
  | true => exact ⟨.bl true, H1, I1, rfl, q1⟩
/-- a if t else b -/
def tIf (t : TT) (ta tb : TE) : TE := fun σ H Q => t σ H fun c H1 => if c = true then ta σ H1 Q else tb σ H1 Q
theorem pe_ifExp {c : Expr} (hc : PT X c tA) (ha : PE X a ta) (hb : PE X b tb) : PE X (.IfExp c a b pos) (tIf tA ta tb) := by
  intro pins s σ H Q I h
  refine wpAny_IfExp (thn (hc pins s σ H _ I h) fun d s1 hq9 => ?_)
  obtain ⟨H1, I1, q1⟩ := hq9
  cases d with
  | true => exact ha pins s1 σ H1 Q I1 q1
  | false => exact hb pins s1 σ H1 Q I1 q1
end
end L2

namespace L2
open PySem PySem.Spec PyProof.Rows

/-! ### a list, a tuple that is read: tracked, frozen, or an object of the module -/
def SqL (K : PySem.W.Frag) (H : Hp) (a : Addr) (xs : List V) : Prop :=
  Rd H a (.lst xs) ∨
    ∃ (o : Obj) (its : Array Value) (n : Nat), K.lookup a = some o ∧ o.cls = .type "list" ∧ o.dict = none ∧ o.data = .seq its n ∧ its.size ≤ sizeLine ∧ Vals xs its.toList
def SqT (K : PySem.W.Frag) (H : Hp) (a : Addr) (xs : List V) : Prop :=
  Rd H a (.tup xs) ∨
    ∃ (o : Obj) (its : Array Value) (n : Nat), K.lookup a = some o ∧ o.cls = .type "tuple" ∧ o.data = .seq its n ∧ its.size ≤ sizeLine ∧ Vals xs its.toList
def absV : Value → Option V
  | .none => some .non
  | .bool b => some (.bl b)
  | .int i _ => some (.int i)
  | .str x _ => some (.str x)
  | .bytes b _ => some (.byt b)
  | .float b _ => some (.flt b)
  | .ref a => some (.ref a)
  | .type n => some (.ty n)
  | _ => none
theorem RelV.abs {x : V} {u : Value} (r : RelV x u) : absV u = some x := by
  cases x with
  | non => cases r; rfl
  | bl _ => cases r; rfl
  | int _ => obtain ⟨t, rfl⟩ := r; rfl
  | str _ => obtain ⟨t, rfl⟩ := r; rfl
  | byt _ => obtain ⟨t, rfl⟩ := r; rfl
  | flt _ => obtain ⟨t, rfl⟩ := r; rfl
  | ref _ => cases r; rfl
  | ty _ => cases r; rfl
theorem RelV.inj {x y : V} {u : Value} (r : RelV x u) (q : RelV y u) : x = y := Option.some.inj (r.abs.symm.trans q.abs)
theorem Vals.inj {xs ys : List V} {us : List Value} (h : Vals xs us) : Vals ys us → xs = ys := by
  induction h generalizing ys with
  | nil => intro h; cases h; rfl
  | cons r t ih =>
    intro h
    cases h with
    | cons r' t' => rw [r.inj r', ih t']
section
variable {X : Cx} {pins : List (Addr × Obj)} {σ : St} {H : Hp} {s : Shared} {a : Addr} {xs ys : List V}
theorem SqL.of {K : PySem.W.Frag} (h : H a = some (.lst xs)) : SqL K H a xs := .inl (.inl h)
theorem SqT.of {K : PySem.W.Frag} (h : H a = some (.tup xs)) : SqT K H a xs := .inl (.inl h)
theorem Inv.list (I : Inv X pins σ H s) (h : SqL X.K H a xs) : ∃ its : List Value, Vals xs its ∧ PlainL s.heap a its.toArray ∧ xs.length ≤ sizeLine := by
  rcases h with h | ⟨o, its, n, hk, hc, hd, hs, hz, r⟩
  · obtain ⟨z, its, n, r, e⟩ := h.ok I.hok
    exact ⟨its, r, ⟨_, n, e, rfl, rfl, rfl⟩, z⟩
  · refine ⟨its.toList, r, ⟨o, n, I.kIn a o hk, hc, hd, by simpa using hs⟩, ?_⟩
    have e := r.length
    simp only [Array.length_toList] at e
    omega
theorem Inv.tuple (I : Inv X pins σ H s) (h : SqT X.K H a xs) : ∃ its : List Value, Vals xs its ∧ IsTup s.heap a its.toArray ∧ xs.length ≤ sizeLine := by
  rcases h with h | ⟨o, its, n, hk, hc, hs, hz, r⟩
  · obtain ⟨z, its, r, p⟩ := h.ok I.hok
    exact ⟨its, r, p, z⟩
  · refine ⟨its.toList, r, ⟨o, I.kIn a o hk, hc, n, by simpa using hs⟩, ?_⟩
    have e := r.length
    simp only [Array.length_toList] at e
    omega
theorem Inv.list_inj (I : Inv X pins σ H s) (h : SqL X.K H a xs) (h' : SqL X.K H a ys) : xs = ys := by
  obtain ⟨its, r, ⟨o, n, e, _, _, d⟩, _⟩ := I.list h
  obtain ⟨its', r', ⟨o', n', e', _, _, d'⟩, _⟩ := I.list h'
  rw [e] at e'; cases e'
  rw [d] at d'
  injection d' with d1 _
  have : its = its' := by simpa using congrArg Array.toList d1
  subst this
  exact r.inj r'
theorem Inv.tuple_inj (I : Inv X pins σ H s) (h : SqT X.K H a xs) (h' : SqT X.K H a ys) : xs = ys := by
  obtain ⟨its, r, ⟨o, e, _, n, d⟩, _⟩ := I.tuple h
  obtain ⟨its', r', ⟨o', e', _, n', d'⟩, _⟩ := I.tuple h'
  rw [e] at e'; cases e'
  rw [d] at d'
  injection d' with d1 _
  have : its = its' := by simpa using congrArg Array.toList d1
  subst this
  exact r.inj r'
end

/-! ### another wish about exceptions -/
abbrev Cx.wish (X : Cx) (E : Value → Shared → Prop) : Cx := { X with xe := E }
/-- no exception leaves -/
abbrev Cx.nox (X : Cx) : Cx := X.wish fun _ _ => False
theorem Cx.Ok.wish {X : Cx} (ok : X.Ok) (E : Value → Shared → Prop) : (X.wish E).Ok :=
  ⟨ok.mod, ok.kind, ok.glob, ok.blt, ok.above, ok.inj, ok.has, ok.cab, ok.hd, ok.frames, ok.stk, ok.exf, ok.bs, ok.bsz, ok.noex, ok.exfs, ok.funs, ok.frf⟩
theorem Cx.Ok.unwish {X : Cx} {E : Value → Shared → Prop} (ok : (X.wish E).Ok) : X.Ok :=
  ⟨ok.mod, ok.kind, ok.glob, ok.blt, ok.above, ok.inj, ok.has, ok.cab, ok.hd, ok.frames, ok.stk, ok.exf, ok.bs, ok.bsz, ok.noex, ok.exfs, ok.funs, ok.frf⟩
section
variable {X : Cx} {pins : List (Addr × Obj)} {σ : St} {H : Hp} {s : Shared} {E : Value → Shared → Prop}
theorem Inv.wish (I : Inv X pins σ H s) (E : Value → Shared → Prop) : Inv (X.wish E) pins σ H s := ⟨I.ok.wish E, I.os, I.bare, I.base, I.loc, I.cell, I.free, I.freeC, I.pin, I.hok, I.len⟩
theorem Inv.unwish (I : Inv (X.wish E) pins σ H s) : Inv X pins σ H s := ⟨I.ok.unwish, I.os, I.bare, I.base, I.loc, I.cell, I.free, I.freeC, I.pin, I.hok, I.len⟩
theorem SP.unwish {D : Ends} {f : Flow} {s' : Shared} (h : SP (X.wish E) pins D f s') : SP X pins D f s' := by
  cases f with
  | next => obtain ⟨σ', H', I, q⟩ := h; exact ⟨σ', H', I.unwish, q⟩
  | brk => obtain ⟨σ', H', I, q⟩ := h; exact ⟨σ', H', I.unwish, q⟩
  | cont => obtain ⟨σ', H', I, q⟩ := h; exact ⟨σ', H', I.unwish, q⟩
  | ret u => obtain ⟨v, σ', H', I, r, q⟩ := h; exact ⟨v, σ', H', I.unwish, r, q⟩
theorem PSs.nox {st : List Stmt} {t : TS} (h : PSs X.nox st t) : PSs X st t := fun pins s σ H D I hw =>
  wpAny_mono (h pins s σ H D (I.wish _) hw) (fun _ _ q => q.unwish) fun _ _ z => False.elim z
end

/-! ### blocks and small statements -/
section
variable {X : Cx} {st : Stmt} {rest : List Stmt} {t u : TS} {e : Expr} {te : TE} {pos : Pos}
def tNext : TS := fun D σ H => D.nx σ H
def tSeq (t u : TS) : TS := fun D σ H => t { D with nx := u D } σ H
theorem pss_nil : PSs X [] tNext := fun _ _ σ H _ I h => wpAny_execs_nil ⟨σ, H, I, h⟩
theorem pss_cons (h1 : PS X st t) (h2 : PSs X rest u) : PSs X (st :: rest) (tSeq t u) := by
  intro pins s σ H D I h
  refine wpAny_execs_cons (thn (h1 pins s σ H { D with nx := u D } I h) fun f s1 q => ?_)
  cases f with
  | next =>
    obtain ⟨σ', H', I', q⟩ := q
    exact h2 pins s1 σ' H' D I' q
  | ret v => exact q
  | brk => exact q
  | cont => exact q
theorem pss_one (h1 : PS X st t) : PSs X [st] t := by
  intro pins s σ H D I h
  refine wpAny_execs_cons (thn (h1 pins s σ H D I h) fun f s1 q => ?_)
  cases f with
  | next => exact wpAny_execs_nil q
  | ret v => exact q
  | brk => exact q
  | cont => exact q
/-- in a def's body nothing is shown -/
theorem Inv.quiet {pins : List (Addr × Obj)} {σ : St} {H : Hp} {s : Shared} (I : Inv X pins σ H s) : interactive X.env = false := by simp [interactive, I.ok.kind]
/-- an expression whose value is dropped -/
def tDrop (te : TE) : TS := fun D σ H => te σ H fun _ H1 => D.nx σ H1
theorem ps_expr (he : PE X e te) (hs : swapsWith e none pos.line X.env = pure false := by rfl) : PS X (.Expr e pos) (tDrop te) := by
  intro pins s σ H D I h
  exact wpAny_Expr_any (thn (he pins s σ H _ I h) fun v s1 ⟨x, H1, I1, r1, q1⟩ => ⟨σ, H1, I1, q1⟩) I.quiet hs
def tRet (te : TE) : TS := fun D σ H => te σ H D.rt
theorem ps_ret (he : PE X e te) : PS X (.Return (some e) pos) (tRet te) := by
  intro pins s σ H D I h
  exact wpAny_Return_some (thn (he pins s σ H _ I h) fun v s1 ⟨x, H1, I1, r1, q1⟩ => ⟨x, σ, H1, I1, r1, q1⟩)
def tIfS (c : TT) (t u : TS) : TS := fun D σ H => c σ H fun b H1 => if b = true then t D σ H1 else u D σ H1
theorem ps_if {c : Expr} {a b : List Stmt} {tc : TT} (hc : PT X c tc) (ha : PSs X a t) (hb : PSs X b u) : PS X (.If c a b pos) (tIfS tc t u) := by
  intro pins s σ H D I h
  refine wpAny_If (thn (hc pins s σ H _ I h) fun d s1 hq9 => ?_)
  obtain ⟨H1, I1, q1⟩ := hq9
  cases d with
  | true => exact ha pins s1 σ H1 D I1 q1
  | false => exact hb pins s1 σ H1 D I1 q1
end

/-! ### targets -/
abbrev TG := V → St → Hp → (St → Hp → Prop) → Prop
abbrev TGs := List V → St → Hp → (St → Hp → Prop) → Prop
def PG (X : Cx) (target : Expr) (t : TG) : Prop :=
  ∀ (pins : List (Addr × Obj)) (s : Shared) (σ : St) (H : Hp) (v : V) (u : Value) (Q : St → Hp → Prop), Inv X pins σ H s → RelV v u → t v σ H Q →
    wpAny (model X.prog X.w) X.A (assign target X.env u) (fun _ s' => ∃ σ' H', Inv X pins σ' H' s' ∧ Q σ' H') X.xe s
/-- several targets, one after another -/
def PGs (X : Cx) (ts : List Expr) (t : TGs) : Prop :=
  ∀ (pins : List (Addr × Obj)) (s : Shared) (σ : St) (H : Hp) (vs : List V) (us : List Value) (Q : St → Hp → Prop), Inv X pins σ H s → Vals vs us → t vs σ H Q →
    wpAny (model X.prog X.w) X.A (assignInOrder ((assignEach ts X.env).map (·.2)) us) (fun _ s' => ∃ σ' H', Inv X pins σ' H' s' ∧ Q σ' H') X.xe s
section
variable {X : Cx} {pos : Pos}
def gName (i : Nat) : TG := fun v σ H Q => Q (σ.set i (some v)) H
theorem pg_name {i : Nat} {x : Str} (hN : X.N.Nodup) (hi : X.N[i]? = some x) (hx : Loc X.env.scope x) (hf : X.fn x = true ∨ X.env.scope.names.lookup x = some .local := by first | exact .inl rfl | exact .inr rfl | assumption) : PG X (.Name x pos) (gName i) := by
  intro pins s σ H v u Q I r h
  exact wpAny_assign_Name (store_ok I hN hi hx r (fun s' I' => ⟨_, H, I', h⟩) hf)
def gNil : TGs := fun vs σ H Q => vs = [] ∧ Q σ H
def gCons (t : TG) (u : TGs) : TGs := fun vs σ H Q => ∃ v r, vs = v :: r ∧ t v σ H fun σ' H' => u r σ' H' Q
theorem pgs_nil : PGs X [] gNil := by
  intro pins s σ H vs us Q I r h
  obtain ⟨e, h⟩ := h
  subst e
  cases r
  exact assignInOrder_nil ⟨σ, H, I, h⟩
theorem pgs_cons {e : Expr} {es : List Expr} {t : TG} {u : TGs} (h1 : PG X e t) (h2 : PGs X es u)
    (hs : (assignEach (e :: es) X.env).map (·.2) = assign e X.env :: (assignEach es X.env).map (·.2) := by rfl) : PGs X (e :: es) (gCons t u) := by
  intro pins s σ H vs us Q I r h
  obtain ⟨v, vr, e1, h⟩ := h
  subst e1
  cases r with
  | cons r rr =>
    rw [hs]
    refine assignInOrder_cons (thn (h1 pins s σ H _ _ _ I r h) fun _ s1 hq9 => ?_)
    obtain ⟨σ1, H1, I1, q1⟩ := hq9
    exact h2 pins s1 σ1 H1 _ _ Q I1 rr q1
/-- (a, b, ..) = a tuple of that length -/
def gTup (K : PySem.W.Frag) (n : Nat) (t : TGs) : TG := fun v σ H Q => ∃ a xs, v = .ref a ∧ SqT K H a xs ∧ xs.length = n ∧ t xs σ H Q
theorem pg_tup {es : List Expr} {k : Nat} {t : TGs} {n : Nat} (hc : X.calm = true) (h : PGs X es t)
    (hn : (assignEach es X.env).length = n := by rfl) (hst : (assignEach es X.env).findIdx? (·.1) = none := by rfl) : PG X (.Tuple es k pos) (gTup X.K n t) := by
  intro pins s σ H v u Q I r hw
  obtain ⟨a, xs, e1, hq, hl, hw⟩ := hw
  subst e1
  cases r
  obtain ⟨its, rv, ht, hz⟩ := I.tuple hq
  refine assign_Tuple_tuple (I.ok.hd hc) ht (by simp [hn, ← hl, rv.length]) hst fun h' hx => ?_
  have I1 : Inv X pins σ H { s with heap := h' } := I.kept (t' := s.toks) fun b o e => hx b o (Nat.ne_of_lt (Heap.lt_size e)) e
  exact h pins _ σ H xs _ Q I1 (by simpa using rv) hw
/-- target = value -/
def tAsg (te : TE) (g : TG) : TS := fun D σ H => te σ H fun x H1 => g x σ H1 D.nx
/-- name = value -/
theorem ps_set {i : Nat} {x : Str} {e : Expr} {te : TE} {pos' : Pos} (hN : X.N.Nodup) (hi : X.N[i]? = some x) (hx : Loc X.env.scope x) (he : PE X e te) (hs : swapsWith e (some (.Name x pos')) pos.line X.env = pure false := by rfl) (hf : X.fn x = true ∨ X.env.scope.names.lookup x = some .local := by first | exact .inl rfl | exact .inr rfl | assumption) :
    PS X (.Assign [.Name x pos'] e pos) (tAsg te (gName i)) := by
  intro pins s σ H D I h
  refine wpAny_Assign_Name (thn (he pins s σ H _ I h) fun v s1 hq9 => ?_) hs
  obtain ⟨y, H1, I1, r1, q1⟩ := hq9
  exact store_ok I1 hN hi hx r1 (fun s2 I2 => ⟨_, H1, I2, q1⟩) hf
end

/-! ### while -/
section
variable {X : Cx} {pos : Pos}
/-- the invariant W with its measure -/
def tWhile (c : TT) (tb : TS) : TS := fun D σ H => ∃ W : Nat → St → Hp → Prop, (∃ m, W m σ H) ∧ ∀ m σ H, W m σ H →
  c σ H fun b H1 => if b = true then ∃ N : St → Hp → Prop, (∀ σ' H', N σ' H' → ∃ m', m' < m ∧ W m' σ' H') ∧ tb { D with nx := N, ct := N, bk := D.nx } σ H1 else D.nx σ H1
theorem ps_while {c : Expr} {body : List Stmt} {tc : TT} {tb : TS} (hp : PassesOwn (model X.prog X.w) X.A X.env X.xe) (hc : PT X c tc) (hb : PSs X body tb) : PS X (.While c body [] pos) (tWhile tc tb) := by
  intro pins s σ H D I h
  obtain ⟨W, ⟨m0, w0⟩, turn⟩ := h
  refine wpAny_While (codeAny_whileLoop (fun n s' => ∃ σ' H', Inv X pins σ' H' s' ∧ W n σ' H') ?_ m0 ⟨σ, H, I, w0⟩)
  rintro n s1 ⟨σ1, H1, I1, w1⟩
  refine wpAny_passesOwn hp (thn (hc pins s1 σ1 H1 _ I1 (turn n σ1 H1 w1)) fun b s2 hq9 => ?_)
  obtain ⟨H2, I2, q2⟩ := hq9
  cases b with
  | true =>
    obtain ⟨N, hN, q2⟩ := q2
    rw [if_pos rfl]
    refine wpAny_passesOwn hp (thn (hb pins s2 σ1 H2 _ I2 q2) fun f s3 q3 => ?_)
    cases f with
    | next =>
      obtain ⟨σ3, H3, I3, n3⟩ := q3
      obtain ⟨m', hm, w3⟩ := hN σ3 H3 n3
      exact ⟨m', hm, σ3, H3, I3, w3⟩
    | cont =>
      obtain ⟨σ3, H3, I3, n3⟩ := q3
      obtain ⟨m', hm, w3⟩ := hN σ3 H3 n3
      exact ⟨m', hm, σ3, H3, I3, w3⟩
    | brk => exact q3
    | ret v => exact q3
  | false =>
    rw [if_neg Bool.false_ne_true]
    exact wpAny_execs_nil ⟨σ1, H2, I2, q2⟩
end

/-! ### what a loop or a comprehension walks -/
/-- at turn i: it yields x (the heap may grow), or it stops -/
structure It where
  go : Nat → Hp → Prop
  yld : Nat → Hp → V → Hp → Prop
  stop : Nat → Hp → Prop
/-- the iterator's own objects may turn: they are not the frame's, not pinned, younger than the entry (or a comprehension's own) -/
def FpOk (X : Cx) (pins : List (Addr × Obj)) (H : Hp) (b : Addr) : Prop :=
  H b = none ∧ b ≠ X.env.locals ∧ b ∉ X.fs ∧ (b ∈ X.ex ∨ X.s_0.heap.objs.size ≤ b) ∧ (∀ x c, X.env.cells.lookup x = some c → c ≠ b) ∧ ∀ p ∈ X.pn ++ pins, p.1 ≠ b
theorem Inv.fpOk {X : Cx} {pins : List (Addr × Obj)} {σ : St} {H H' : Hp} {s : Shared} {b : Addr} (I : Inv X pins σ H s) (hb : s.heap.objs.size ≤ b) (hn : H' b = none) : FpOk X pins H' b := by
  refine ⟨hn, Nat.ne_of_gt (Nat.lt_of_lt_of_le I.lt hb), I.nofs hb, .inr (Nat.le_trans I.sz hb), fun x c e z => ?_, fun p hp z => ?_⟩
  · obtain ⟨v, q⟩ := I.cell x c e
    exact absurd (Nat.lt_of_lt_of_le q.lt (by rw [z]; exact hb)) (Nat.lt_irrefl _)
  · exact absurd (Nat.lt_of_lt_of_le (Heap.lt_size (I.pin p hp).1) (by rw [z]; exact hb)) (Nat.lt_irrefl _)
structure Turn (P : Program) (w : World) (K : PySem.W.Frag) (tg : Expr) (J : It) (fp : List Addr) (it : Addr) (tn : Nat → Heap → Prop) : Prop where
  mem : it ∈ fp
  obj : ∀ i h, tn i h → ∀ b ∈ fp, ∃ o, h.get? b = some o ∧ ∀ v, o.data ≠ .cell v
  keep : ∀ i h h', tn i h → (∀ b ∈ fp, ∀ o, h.get? b = some o → h'.get? b = some o) → tn i h'
  item : ∀ (X : Cx), X.prog = P → X.w = w → X.K = K → X.calm = true → ∀ (i : Nat) (pins : List (Addr × Obj)) (s : Shared) (σ : St) (H : Hp) (E : Value → Shared → Prop), Inv X pins σ H s → (∀ b ∈ fp, FpOk X pins H b) → tn i s.heap → J.go i H →
    wpAny (model P w) X.A (pyNext (.ref it)) (fun r s1 => ∃ u, r = some u ∧
      wpAny (model P w) X.A (letOwnedTupleGo tg (.ref it) u) (fun _ s2 => ∃ x H', Inv X pins σ H' s2 ∧ RelV x u ∧ J.yld i H x H' ∧ tn (i + 1) s2.heap ∧ ∀ b ∈ fp, H' b = none) E s1) E s
  done : ∀ (X : Cx), X.prog = P → X.w = w → X.K = K → X.calm = true → ∀ (i : Nat) (pins : List (Addr × Obj)) (s : Shared) (σ : St) (H : Hp) (E : Value → Shared → Prop), Inv X pins σ H s → (∀ b ∈ fp, FpOk X pins H b) → tn i s.heap → J.stop i H →
    wpAny (model P w) X.A (pyNext (.ref it)) (fun r s1 => r = none ∧ Inv X pins σ H s1) E s
  self : ∀ (A : Around) (i : Nat) (s : Shared) (Q : Value → Shared → Prop) (E : Value → Shared → Prop), tn i s.heap → Q (.ref it) s → wpAny (model P w) A (pyIter (.ref it)) Q E s
abbrev TI := St → Hp → (It → Hp → Prop) → Prop
/-- an iterator has come -/
def PIE (X : Cx) (pins : List (Addr × Obj)) (σ : St) (tg : Expr) (R : It → Hp → Prop) (itv : Value) (s2 : Shared) : Prop :=
  ∃ (it : Addr) (fp : List Addr) (tn : Nat → Heap → Prop) (J : It) (H' : Hp), itv = .ref it ∧ Inv X pins σ H' s2 ∧ Turn X.prog X.w X.K tg J fp it tn ∧ tn 0 s2.heap ∧ (∀ b ∈ fp, FpOk X pins H' b) ∧ R J H'
def PI (X : Cx) (tg iter : Expr) (wi : TI) : Prop :=
  ∀ (pins : List (Addr × Obj)) (s : Shared) (σ : St) (H : Hp) (R : It → Hp → Prop), Inv X pins σ H s → wi σ H R →
    wpAny (model X.prog X.w) X.A (eval iter X.env) (fun v s1 => wpAny (model X.prog X.w) X.A (pyIter v) (PIE X pins σ tg R) X.xe s1) X.xe s

/-- the step ahead of the store is nothing for an iterator that keeps no tuple -/
theorem go_of {M : Model} {A : Around} {E : Value → Shared → Prop} {s : Shared} {tg : Expr} {it : Addr} {u : Value} {o : Obj} {n : String} {vs : Array Value} {Q : Unit → Shared → Prop} (ho : s.heap.get? it = some o) (hc : o.cls = .type n) (hd : o.data = .fields vs)
    (hn : ["enumerate", "zip", "dict_itemiterator", "dict_reverseitemiterator", "odict_iterator", "itertools.zip_longest", "itertools.pairwise"].contains n = false) (hQ : Q () s) : wpAny M A (letOwnedTupleGo tg (.ref it) u) Q E s := by
  unfold letOwnedTupleGo
  cases tg <;> first
    | exact wpAny_pure hQ
    | (cases u <;> first
        | exact wpAny_pure hQ
        | (refine wpAny_bind (wpAny_load ho ?_)
           rw [hc, hd]
           show wpAny M A (if (["enumerate", "zip", "dict_itemiterator", "dict_reverseitemiterator", "odict_iterator", "itertools.zip_longest", "itertools.pairwise"].contains n && vs[0]? == some (rawInt _)) = true then _ else _) Q E s
           rw [if_neg (by intro h; rw [hn, Bool.false_and] at h; cases h)]
           exact wpAny_pure hQ))

/-- the list at a, as it stands at each turn (a loop may append to it) -/
def Itl (K : PySem.W.Frag) (a : Addr) : It :=
  ⟨fun i H => ∃ xs x, SqL K H a xs ∧ xs[i]? = some x, fun i H x H' => H' = H ∧ ∀ xs, SqL K H a xs → xs[i]? = some x, fun i H => ∃ xs, SqL K H a xs ∧ xs.length ≤ i⟩
/-- lo, lo + 1, .. (n of them) -/
def Itr (lo : Int) (n : Nat) : It := ⟨fun i _ => i < n, fun i H x H' => H' = H ∧ x = .int (lo + i), fun i _ => n ≤ i⟩
theorem turn_list {P : Program} {w : World} {K : PySem.W.Frag} {tg : Expr} (a it : Addr) : Turn P w K tg (Itl K a) [it] it (fun i h => h.IsListIter it a i) where
  mem := by simp
  obj := fun i h st b hb => by
    have e : b = it := by simpa using hb
    subst e
    obtain ⟨o, e, c, d⟩ := st
    exact ⟨o, e, fun v z => by rw [d] at z; cases z⟩
  keep := fun i h h' st k => st.at fun o e => k it (by simp) o e
  item := by
    intro X hP hw hK hc i pins s σ H E I hf st hg
    subst hP hw hK
    obtain ⟨xs, x, hq, hx⟩ := hg
    obtain ⟨its, rv, p, hz⟩ := I.list hq
    obtain ⟨u, hu, ru⟩ := rv.get hx
    obtain ⟨f0, f1, f2, f3, f4, f5⟩ := hf it (by simp)
    refine wpAny_pyNext_list_item st p.isList (x := u) (by simpa using hu) fun h' st' sb => ?_
    have I1 : Inv X pins σ H { s with heap := h' } := I.turned (t' := s.toks) (fun b o hb e => (sb.2 b hb).trans e) f0 f1 f3 f4 f5
    obtain ⟨o, e, c, d⟩ := id st'
    exact ⟨u, rfl, go_of (s := { s with heap := h' }) e c d (by decide) ⟨x, H, I1, ru, ⟨rfl, fun ys hy => by rw [I.list_inj hy hq]; exact hx⟩, st', fun b hb => (hf b hb).1⟩⟩
  done := by
    intro X hP hw hK hc i pins s σ H E I hf st hg
    subst hP hw hK
    obtain ⟨xs, hq, hx⟩ := hg
    obtain ⟨its, rv, p, hz⟩ := I.list hq
    obtain ⟨f0, f1, f2, f3, f4, f5⟩ := hf it (by simp)
    have hl := rv.length
    exact wpAny_pyNext_list_end (I.ok.hd hc) st p.isList (by simp; omega) fun h' eb => ⟨rfl, I.turned (t' := s.toks) (fun b o hb e => eb b o hb e) f0 f1 f3 f4 f5⟩
  self := fun _ _ _ _ _ st h => wpAny_pyIter_listiter st h
theorem turn_range {P : Program} {w : World} {K : PySem.W.Frag} {tg : Expr} (it : Addr) (lo : Int) (n : Nat) : Turn P w K tg (Itr lo n) [it] it (fun i h => IsRangeIter h it (lo + (i : Nat) * 1) ((n : Int) - (i : Nat)) 1) where
  mem := by simp
  obj := fun i h st b hb => by
    have e : b = it := by simpa using hb
    subst e
    exact ⟨_, st, fun v z => by
      have z' : Data.fields _ = Data.cell v := z
      cases z'⟩
  keep := fun i h h' st k => k it (by simp) _ st
  item := by
    intro X hP hw hK hc i pins s σ H E I hf st hg
    subst hP hw hK
    obtain ⟨f0, f1, f2, f3, f4, f5⟩ := hf it (by simp)
    have W := Walks.range (prog := X.prog) (w := X.w) (I.ok.hd hc) it lo 1 n
    refine W.item i s _ _ hg st fun v h' tk hv st' kk => ?_
    obtain ⟨t, rfl⟩ := hv
    have I1 : Inv X pins σ H { s with heap := h', toks := tk } := I.turned (fun b o hb e => kk b o (by simpa using hb) e) f0 f1 f3 f4 f5
    refine ⟨_, rfl, go_of (s := { s with heap := h', toks := tk }) (n := "range_iterator") st' rfl rfl (by decide) ⟨.int (lo + i), H, I1, ⟨t, ?_⟩, ⟨rfl, rfl⟩, st', fun b hb => (hf b hb).1⟩⟩
    rw [Int.mul_one]
  done := by
    intro X hP hw hK hc i pins s σ H E I hf st hg
    subst hP hw hK
    obtain ⟨f0, f1, f2, f3, f4, f5⟩ := hf it (by simp)
    exact wpAny_pyNext_range_end (I.ok.hd hc) st (by have : n ≤ i := hg; omega) fun h' eb => ⟨rfl, I.turned (t' := s.toks) (fun b o hb e => eb b o hb e) f0 f1 f3 f4 f5⟩
  self := fun _ _ _ _ _ st h => wpAny_pyIter_rangeiter st h
end L2

namespace L2
open PySem PySem.Spec PyProof.Rows
section
variable {X : Cx} {tg : Expr}
def iList (K : PySem.W.Frag) (tl : TE) : TI := fun σ H R => tl σ H fun x H1 => ∃ a, x = .ref a ∧ (∃ xs, SqL K H1 a xs) ∧ R (Itl K a) H1
theorem pi_list {l : Expr} {tl : TE} (hl : PE X l tl) : PI X tg l (iList X.K tl) := by
  intro pins s σ H R I h
  refine thn (hl pins s σ H _ I h) fun v s1 hq9 => ?_
  obtain ⟨x, H1, I1, r1, q1⟩ := hq9
  obtain ⟨a, e, ⟨xs, hq⟩, q⟩ := q1
  subst e
  cases r1
  obtain ⟨its, rv, p, hz⟩ := I1.list hq
  refine wpAny_pyIter_list p.isList ?_
  refine ⟨s1.heap.objs.size, [s1.heap.objs.size], _, _, H1, rfl, I1.kept (t' := s1.toks) fun b o e => Heap.get?_push_of_some _ e, turn_list a _, ⟨_, Heap.get?_push_size _ rfl, rfl, rfl⟩, fun b hb => ?_, q⟩
  have e : b = s1.heap.objs.size := by simpa using hb
  subst e
  exact I1.fpOk (Nat.le_refl _) (I1.hok.fresh (Nat.le_refl _))
/-- a range object just made, walked -/
theorem range_it {pins : List (Addr × Obj)} {σ : St} {H : Hp} {s : Shared} {R : It → Hp → Prop} {E : Value → Shared → Prop} {lo hi : Int} {t u v : Tok} {tk : Nat} (I : Inv X pins σ H s) (h1 : -(2 ^ 62) ≤ lo) (h2 : lo < 2 ^ 62) (h3 : -(2 ^ 62) ≤ hi) (h4 : hi < 2 ^ 62)
    (q : R (Itr lo (hi - lo).toNat) H) : wpAny (model X.prog X.w) X.A (pyIter (.ref s.heap.objs.size)) (PIE X pins σ tg R) E { s with heap := s.heap.push { cls := .type "range", data := .fields #[.int lo t, .int hi u, .int 1 v] }, toks := tk } := by
  refine wpAny_pyIter_range (IsRange.new ..) (small_one h1 h2 h3 h4) ?_
  have I1 : Inv X pins σ H { s with heap := s.heap.push { cls := .type "range", data := .fields #[.int lo t, .int hi u, .int 1 v] }, toks := tk } := I.kept fun b o e => Heap.get?_push_of_some _ e
  refine ⟨(s.heap.push { cls := .type "range", data := .fields #[.int lo t, .int hi u, .int 1 v] }).objs.size, [(s.heap.push { cls := .type "range", data := .fields #[.int lo t, .int hi u, .int 1 v] }).objs.size], _, _, H, rfl,
    I1.kept (t' := tk) fun b o e => Heap.get?_push_of_some _ e, turn_range _ lo (hi - lo).toNat, ?_, fun b hb => ?_, q⟩
  · have e1 : lo + ((0 : Nat) : Int) * 1 = lo := by simp
    have e2 : (((hi - lo).toNat : Nat) : Int) - ((0 : Nat) : Int) = Builtin.Range.rangeSize lo hi 1 := by rw [rangeSize_one]; split <;> omega
    show IsRangeIter _ _ (lo + ((0 : Nat) : Int) * 1) ((((hi - lo).toNat : Nat) : Int) - ((0 : Nat) : Int)) 1
    rw [e1, e2]
    exact Heap.get?_push_size _ rfl
  · have e : b = (s.heap.push { cls := .type "range", data := .fields #[.int lo t, .int hi u, .int 1 v] }).objs.size := by simpa using hb
    subst e
    exact I1.fpOk (Nat.le_refl _) (I1.hok.fresh (Nat.le_refl _))
def iRng2 (ta : TA) : TI := fun σ H R => ta σ H fun vs H1 => ∃ i j : Int, vs = [.int i, .int j] ∧ (-(2 ^ 62) ≤ i ∧ i < 2 ^ 62 ∧ -(2 ^ 62) ≤ j ∧ j < 2 ^ 62) ∧ R (Itr i (j - i).toNat) H1
theorem pi_range2 {a b : Expr} {ta : TA} {p pos : Pos} (hg : Gl X "range") (hm : X.mg "range" = none) (ha : PA X [a, b] ta) (hs : starEach [a, b] X.env = [(false, eval a X.env), (false, eval b X.env)] := by rfl) (hs2 : starEach [b] X.env = [(false, eval b X.env)] := by rfl) :
    PI X tg (.Call (.Name "range" p) [a, b] [] pos) (iRng2 ta) := by
  intro pins s σ H R I h
  refine Call_ (ld_blt I hg hm boot_range (PyProof.Rows.callWith_type1 (thn (ha pos pins s σ H _ I h) fun us s1 hq9 => ?_) (by rw [hs, hs2]) (by rw [hs2]; rfl)))
  obtain ⟨vs, H1, I1, r1, q1⟩ := hq9
  obtain ⟨i, j, e, ⟨q1, q2, q3, q4⟩, q⟩ := q1
  subst e
  cases r1 with
  | cons r rr =>
    cases rr with
    | cons r' rr =>
      cases rr
      obtain ⟨t, rfl⟩ := r
      obtain ⟨t', rfl⟩ := r'
      exact call_range_2 (range_it I1 q1 q2 q3 q4 q)

/-! ### for -/
/-- W: the invariant by the turn and a measure; N: what the body is to reach -/
def tFor (wi : TI) (g : TG) (tb : TS) : TS := fun D σ H => wi σ H fun J H1 => ∃ W : Nat → Nat → St → Hp → Prop, (∃ m, W 0 m σ H1) ∧ ∀ i m σ H, W i m σ H →
  (J.stop i H ∧ D.nx σ H) ∨ (J.go i H ∧ ∃ N : St → Hp → Prop, (∀ σ' H', N σ' H' → ∃ m', m' < m ∧ W (i + 1) m' σ' H') ∧ ∀ x H', J.yld i H x H' → g x σ H' fun σ2 H2 => tb { D with nx := N, ct := N, bk := D.nx } σ2 H2)
/-- the records at fp as they stand -/
def pinsAt (fp : List Addr) (h : Heap) : List (Addr × Obj) := fp.filterMap fun b => (h.get? b).map fun o => (b, o)
theorem mem_pinsAt {fp : List Addr} {h : Heap} {b : Addr} {o : Obj} (hb : b ∈ fp) (e : h.get? b = some o) : (b, o) ∈ pinsAt fp h := List.mem_filterMap.mpr ⟨b, hb, by rw [e]; rfl⟩
theorem of_pinsAt {fp : List Addr} {h : Heap} {p : Addr × Obj} (hp : p ∈ pinsAt fp h) : p.1 ∈ fp ∧ h.get? p.1 = some p.2 := by
  obtain ⟨b, hb, e⟩ := List.mem_filterMap.mp hp
  cases q : h.get? b with
  | none => rw [q] at e; cases e
  | some o =>
    rw [q] at e
    have e' : (b, o) = p := Option.some.inj e
    subst e'
    exact ⟨hb, q⟩
theorem Inv.pinned {pins : List (Addr × Obj)} {σ : St} {H : Hp} {s : Shared} {fp : List Addr} (I : Inv X pins σ H s) (hf : ∀ b ∈ fp, FpOk X pins H b) (ho : ∀ b ∈ fp, ∃ o, s.heap.get? b = some o ∧ ∀ v, o.data ≠ .cell v) : Inv X (pins ++ pinsAt fp s.heap) σ H s :=
  I.pins_of fun p hp => (List.mem_append.mp hp).elim (fun z => I.pin p (List.mem_append_right _ z)) fun z => by
    obtain ⟨hb, e⟩ := of_pinsAt z
    obtain ⟨f0, f1, f2, _⟩ := hf p.1 hb
    obtain ⟨o, e', d⟩ := ho p.1 hb
    rw [e] at e'; cases e'
    exact ⟨e, f0, f1, f2, d⟩
theorem Inv.unpinned {pins pl : List (Addr × Obj)} {σ : St} {H : Hp} {s : Shared} (I : Inv X (pins ++ pl) σ H s) : Inv X pins σ H s := I.pins_of fun p hp => I.pin p (List.mem_append_right _ (List.mem_append_left _ hp))
theorem ps_for {iter : Expr} {body : List Stmt} {wi : TI} {g : TG} {tb : TS} {pos : Pos} (hp : PassesOwn (model X.prog X.w) X.A X.env X.xe) (hc : X.calm = true) (hi : PI X tg iter wi) (hg : PG X tg g) (hb : PSs X body tb)
    (hs : ∀ x, foldedSetIterable iter X.env x = pure x := by intro _; rfl) : PS X (.For tg iter body [] pos) (tFor wi g tb) := by
  intro pins s σ H D I h
  refine wpAny_For (thn (hi pins s σ H _ I h) fun v s1 h1 => thn h1 fun itv s2 h2 => ?_) hs
  obtain ⟨it, fp, tn, J, H2, e, I2, T, st2, f2, W, ⟨m0, w0⟩, turn⟩ := h2
  subst e
  -- what stays true of the iterator's objects through the loop
  have stat : ∀ {H' : Hp}, (∀ b ∈ fp, H' b = none) → ∀ b ∈ fp, FpOk X pins H' b := fun hn b hb => ⟨hn b hb, (f2 b hb).2⟩
  refine codeAny_forLoop_any (fun n s' => ∃ i σ' H', Inv X pins σ' H' s' ∧ tn i s'.heap ∧ (∀ b ∈ fp, H' b = none) ∧ W i n σ' H') ?_ m0 ⟨0, σ, H2, I2, st2, fun b hb => (f2 b hb).1, w0⟩
  rintro n s3 ⟨i, σ3, H3, I3, st3, fr3, w3⟩
  rcases turn i n σ3 H3 w3 with ⟨stop, qn⟩ | ⟨go, N, hN, step⟩
  · refine wpAny_passesOwn hp (thn (T.done X rfl rfl rfl hc i pins s3 σ3 H3 X.xe I3 (stat fr3) st3 stop) fun r s4 hq9 => ?_)
    obtain ⟨hr, I4⟩ := hq9
    subst hr
    exact wpAny_execs_nil ⟨σ3, H3, I4, qn⟩
  · refine wpAny_passesOwn hp (thn (T.item X rfl rfl rfl hc i pins s3 σ3 H3 X.xe I3 (stat fr3) st3 go) fun r s4 hq9 => ?_)
    obtain ⟨u, hr, h4⟩ := hq9
    subst hr
    refine wpAny_passesOwn hp (thn h4 fun _ s5 hq9 => ?_)
    obtain ⟨x, H5, I5, r5, y5, st5, fr5⟩ := hq9
    have I5' := I5.pinned (stat fr5) (T.obj _ _ st5)
    refine wpAny_passesOwn hp (thn (hg _ s5 σ3 H5 x u _ I5' r5 (step x H5 y5)) fun _ s6 hq9 => ?_)
    obtain ⟨σ6, H6, I6, q6⟩ := hq9
    refine wpAny_passesOwn hp (thn (hb _ s6 σ6 H6 _ I6 q6) fun f s7 q7 => ?_)
    have again : ∀ {σ7 : St} {H7 : Hp}, Inv X (pins ++ pinsAt fp s5.heap) σ7 H7 s7 → N σ7 H7 → ∃ m, m < n ∧ ∃ i σ' H', Inv X pins σ' H' s7 ∧ tn i s7.heap ∧ (∀ b ∈ fp, H' b = none) ∧ W i m σ' H' := fun {σ7 H7} I7 n7 => by
      obtain ⟨m', hm, w7⟩ := hN σ7 H7 n7
      refine ⟨m', hm, i + 1, σ7, H7, I7.unpinned, T.keep _ _ _ st5 fun b hb o e => (I7.pin (b, o) (List.mem_append_right _ (List.mem_append_right _ (mem_pinsAt hb e)))).1, fun b hb => ?_, w7⟩
      obtain ⟨o, e, d⟩ := T.obj _ _ st5 b hb
      exact (I7.pin (b, o) (List.mem_append_right _ (List.mem_append_right _ (mem_pinsAt hb e)))).2.1
    cases f with
    | next => obtain ⟨σ7, H7, I7, n7⟩ := q7; exact again I7 n7
    | cont => obtain ⟨σ7, H7, I7, n7⟩ := q7; exact again I7 n7
    | brk => obtain ⟨σ7, H7, I7, q7⟩ := q7; exact ⟨σ7, H7, I7.unpinned, q7⟩
    | ret v => obtain ⟨x7, σ7, H7, I7, r7, q7⟩ := q7; exact ⟨x7, σ7, H7, I7.unpinned, r7, q7⟩
end

/-! ### the forms one uses -/
/-- over a list that the body leaves as it is -/
theorem for_list {K : PySem.W.Frag} {a : Addr} {xs : List V} {g : TG} {tb : TS} {D : Ends} {σ : St} {H : Hp} (Pv : Nat → St → Hp → Prop) (h0 : Pv 0 σ H) (hl : ∀ i σ H, i ≤ xs.length → Pv i σ H → SqL K H a xs)
    (hs : ∀ i x σ H, xs[i]? = some x → Pv i σ H → g x σ H fun σ2 H2 => tb { D with nx := Pv (i + 1), ct := Pv (i + 1), bk := D.nx } σ2 H2) (hd : ∀ σ H, Pv xs.length σ H → D.nx σ H) :
    ∃ W : Nat → Nat → St → Hp → Prop, (∃ m, W 0 m σ H) ∧ ∀ i m σ H, W i m σ H →
      ((Itl K a).stop i H ∧ D.nx σ H) ∨ ((Itl K a).go i H ∧ ∃ N : St → Hp → Prop, (∀ σ' H', N σ' H' → ∃ m', m' < m ∧ W (i + 1) m' σ' H') ∧ ∀ x H', (Itl K a).yld i H x H' → g x σ H' fun σ2 H2 => tb { D with nx := N, ct := N, bk := D.nx } σ2 H2) := by
  refine ⟨fun i m σ H => m = xs.length - i ∧ i ≤ xs.length ∧ Pv i σ H, ⟨xs.length, by simp, Nat.zero_le _, h0⟩, ?_⟩
  rintro i m σ H ⟨rfl, hi, p⟩
  have q := hl i σ H hi p
  by_cases hlt : i < xs.length
  · refine .inr ⟨⟨xs, xs[i], q, by simp [hlt]⟩, Pv (i + 1), fun σ' H' p' => ⟨xs.length - (i + 1), by omega, rfl, hlt, p'⟩, fun x H' y => ?_⟩
    obtain ⟨e, y⟩ := y
    subst e
    exact hs i x σ _ (y xs q) p
  · have e : i = xs.length := by omega
    subst e
    exact .inl ⟨⟨xs, q, Nat.le_refl _⟩, hd σ H p⟩
theorem for_range {lo : Int} {n : Nat} {g : TG} {tb : TS} {D : Ends} {σ : St} {H : Hp} (Pv : Nat → St → Hp → Prop) (h0 : Pv 0 σ H)
    (hs : ∀ i σ H, i < n → Pv i σ H → g (.int (lo + i)) σ H fun σ2 H2 => tb { D with nx := Pv (i + 1), ct := Pv (i + 1), bk := D.nx } σ2 H2) (hd : ∀ σ H, Pv n σ H → D.nx σ H) :
    ∃ W : Nat → Nat → St → Hp → Prop, (∃ m, W 0 m σ H) ∧ ∀ i m σ H, W i m σ H →
      ((Itr lo n).stop i H ∧ D.nx σ H) ∨ ((Itr lo n).go i H ∧ ∃ N : St → Hp → Prop, (∀ σ' H', N σ' H' → ∃ m', m' < m ∧ W (i + 1) m' σ' H') ∧ ∀ x H', (Itr lo n).yld i H x H' → g x σ H' fun σ2 H2 => tb { D with nx := N, ct := N, bk := D.nx } σ2 H2) := by
  refine ⟨fun i m σ H => m = n - i ∧ i ≤ n ∧ Pv i σ H, ⟨n, by simp, Nat.zero_le _, h0⟩, ?_⟩
  rintro i m σ H ⟨rfl, hi, p⟩
  by_cases hlt : i < n
  · refine .inr ⟨hlt, Pv (i + 1), fun σ' H' p' => ⟨n - (i + 1), by omega, rfl, hlt, p'⟩, fun x H' y => ?_⟩
    obtain ⟨e, y⟩ := y
    subst e y
    exact hs i σ _ hlt p
  · have e : i = n := by omega
    subst e
    exact .inl ⟨Nat.le_refl _, hd σ H p⟩
end L2

namespace L2
open PySem PySem.Spec PyProof.Rows

abbrev R2 := V → V → Hp → VK → Prop
/-- a two-place operation on values: f is binaryOp op, inplaceOp op or compareOp op -/
def OpR (X : Cx) (f : Value → Value → Sem Value) (r : R2) : Prop :=
  ∀ (pins : List (Addr × Obj)) (s : Shared) (σ : St) (H : Hp) (x y : V) (v u : Value) (Q : VK), Inv X pins σ H s → RelV x v → RelV y u → r x y H Q →
    wpAny (model X.prog X.w) X.A (f v u) (EP X pins σ Q) X.xe s
/-- a call of a value that is known (a builtin, a type) with values -/
def CallR (X : Cx) (f : Value) (r : List V → Hp → VK → Prop) : Prop :=
  ∀ (pins : List (Addr × Obj)) (s : Shared) (σ : St) (H : Hp) (xs : List V) (us : List Value) (Q : VK), Inv X pins σ H s → Vals xs us → r xs H Q →
    wpAny (model X.prog X.w) X.A (call f us) (EP X pins σ Q) X.xe s

def tOp (r : R2) (ta tb : TE) : TE := fun σ H Q => ta σ H fun x H1 => tb σ H1 fun y H2 => r x y H2 Q
/-- ints in, under C, and a value out -/
def rI (C : Int → Int → Prop) (g : Int → Int → V) : R2 := fun x y H Q => ∃ i j, x = .int i ∧ y = .int j ∧ C i j ∧ Q (g i j) H
inductive IntR (g : Int → Int → V) (x y : V) (H : Hp) (Q : VK) : Prop
  | mk (i j : Int) (hx : x = .int i) (hy : y = .int j) (q : Q (g i j) H) : IntR g x y H Q
def rI0 (g : Int → Int → V) : R2 := IntR g

section
variable {X : Cx} {a b c : Expr} {ta tb tc : TE} {pos : Pos}

theorem binT (ha : PE X a ta) (hb : PE X b tb) {pins : List (Addr × Obj)} {s : Shared} {σ : St} {H : Hp} {R : V → V → Hp → Prop} (I : Inv X pins σ H s)
    (h : ta σ H fun x H1 => tb σ H1 fun y H2 => R x y H2) {Q : Value → Shared → Prop} {f : Value → Value → Sem Value}
    (hf : ∀ v u s2 x y H2, Inv X pins σ H2 s2 → RelV x v → RelV y u → R x y H2 → wpAny (model X.prog X.w) X.A (f v u) Q X.xe s2) :
    wpAny (model X.prog X.w) X.A (eval a X.env) (fun v s₁ => wpAny (model X.prog X.w) X.A (eval b X.env) (fun u s₂ => wpAny (model X.prog X.w) X.A (f v u) Q X.xe s₂) X.xe s₁) X.xe s := by
  refine thn (ha pins s σ H _ I h) fun v s1 hq9 => ?_
  obtain ⟨x, H1, I1, r1, q1⟩ := hq9
  refine thn (hb pins s1 σ H1 _ I1 q1) fun u s2 hq9 => ?_
  obtain ⟨y, H2, I2, r2, q2⟩ := hq9
  exact hf v u s2 x y H2 I2 r1 r2 q2

theorem pe_op {op : Operator} {r : R2} (ho : OpR X (binaryOp op) r) (ha : PE X a ta) (hb : PE X b tb) : PE X (.BinOp a op b pos) (tOp r ta tb) := by
  intro pins s σ H Q I h
  exact wpAny_BinOp (binT ha hb I h fun v u s2 x y H2 I2 rx ry q => ho pins s2 σ H2 x y v u Q I2 rx ry q)

/-! ### ints -/
theorem opI {f : Value → Value → Sem Value} {C : Int → Int → Prop} {g : Int → Int → Int}
    (rule : ∀ (i j : Int) (t u : Tok) (s : Shared) (Q : Value → Shared → Prop) (E : Value → Shared → Prop), C i j → Q (.int (g i j) s.toks) { s with toks := s.toks + 1 } → wpAny (model X.prog X.w) X.A (f (.int i t) (.int j u)) Q E s) :
    OpR X f (rI C fun i j => .int (g i j)) := by
  intro pins s σ H x y v u Q I rx ry h
  obtain ⟨i, j, rfl, rfl, hc, q⟩ := h
  obtain ⟨t, rfl⟩ := rx
  obtain ⟨t', rfl⟩ := ry
  exact rule i j t t' s _ _ hc ⟨.int (g i j), H, I.tok _, ⟨_, rfl⟩, q⟩
theorem opI0 {f : Value → Value → Sem Value} {g : Int → Int → Int}
    (rule : ∀ (i j : Int) (t u : Tok) (s : Shared) (Q : Value → Shared → Prop) (E : Value → Shared → Prop), Q (.int (g i j) s.toks) { s with toks := s.toks + 1 } → wpAny (model X.prog X.w) X.A (f (.int i t) (.int j u)) Q E s) :
    OpR X f (rI0 fun i j => .int (g i j)) := by
  intro pins s σ H x y v u Q I rx ry h
  obtain ⟨i, j, rfl, rfl, q⟩ := h
  obtain ⟨t, rfl⟩ := rx
  obtain ⟨t', rfl⟩ := ry
  exact rule i j t t' s _ _ ⟨.int (g i j), H, I.tok _, ⟨_, rfl⟩, q⟩
theorem opB0 {f : Value → Value → Sem Value} {g : Int → Int → Bool}
    (rule : ∀ (i j : Int) (t u : Tok) (s : Shared) (Q : Value → Shared → Prop) (E : Value → Shared → Prop), Q (.bool (g i j)) s → wpAny (model X.prog X.w) X.A (f (.int i t) (.int j u)) Q E s) :
    OpR X f (rI0 fun i j => .bl (g i j)) := by
  intro pins s σ H x y v u Q I rx ry h
  obtain ⟨i, j, rfl, rfl, q⟩ := h
  obtain ⟨t, rfl⟩ := rx
  obtain ⟨t', rfl⟩ := ry
  exact rule i j t t' s _ _ ⟨.bl (g i j), H, I, rfl, q⟩

def CMul (i j : Int) : Prop := (-(2 ^ 64) < i ∧ i < 2 ^ 64) ∨ (-(2 ^ 64) < j ∧ j < 2 ^ 64)
theorem CMul.ok {i j : Int} (h : CMul i j) : IntMulOk i j := by
  rcases h with ⟨h1, h2⟩ | ⟨h1, h2⟩
  · exact .of_left (intBits_le_64 h1 h2)
  · exact .of_right (intBits_le_64 h1 h2)

theorem op_add : OpR X (binaryOp .Add) (rI0 fun i j => .int (i + j)) := opI0 fun _ _ _ _ _ _ _ q => add_int q
theorem op_sub : OpR X (binaryOp .Sub) (rI0 fun i j => .int (i - j)) := opI0 fun _ _ _ _ _ _ _ q => sub_int q
theorem op_mul : OpR X (binaryOp .Mult) (rI CMul fun i j => .int (i * j)) := opI fun _ _ _ _ _ _ _ hc q => mul_int q hc.ok



/-! ### bools among ints: n += (a < b) -/
end

/-! ### comparisons -/
/-- the scalars that == tells apart as data does -/
def scal : V → V → Bool
  | .non, .non => true | .non, .int _ => true | .int _, .non => true | .non, .bl _ => true | .bl _, .non => true | .non, .str _ => true | .str _, .non => true
  | .int _, .int _ => true | .bl _, .bl _ => true | .str _, .str _ => true | .byt _, .byt _ => true
  | .int _, .str _ => true | .str _, .int _ => true | .bl _, .str _ => true | .str _, .bl _ => true
  | _, _ => false
def rEq : R2 := fun x y H Q => scal x y = true ∧ Q (.bl (decide (x = y))) H
def rNe : R2 := fun x y H Q => scal x y = true ∧ Q (.bl (!decide (x = y))) H

theorem dec_int {i j : Int} : decide (V.int i = V.int j) = (i == j) := by
  rw [Bool.eq_iff_iff]
  simp
theorem dec_bl {i j : Bool} : decide (V.bl i = V.bl j) = (i == j) := by
  rw [Bool.eq_iff_iff]
  simp
theorem dec_str {i j : Str} : decide (V.str i = V.str j) = (i == j) := by
  rw [Bool.eq_iff_iff]
  simp
theorem dec_byt {i j : Array UInt8} : decide (V.byt i = V.byt j) = (i.toList == j.toList) := by
  rw [Bool.eq_iff_iff]
  cases i
  cases j
  simp

section
variable {X : Cx} {a b c : Expr} {ta tb tc : TE} {pos : Pos}
theorem fin_bl {pins : List (Addr × Obj)} {σ : St} {H : Hp} {s : Shared} {Q : VK} {k k' : Bool} (I : Inv X pins σ H s) (q : Q (.bl k) H) (e : k = k') : EP X pins σ Q (.bool k') s := by
  subst e
  exact ⟨.bl k, H, I, rfl, q⟩
theorem op_eq : OpR X (compareOp .Eq) rEq := by
  intro pins s σ H x y v u Q I rx ry h
  obtain ⟨hs, q⟩ := h
  cases x with
  | non =>
    cases rx
    cases y with
    | non => cases ry; exact PySem.EqNone.eq_none_none (fin_bl I q (by simp))
    | bl j => cases ry; exact PySem.EqNone.eq_none_bool (fin_bl I q (by simp))
    | int j => obtain ⟨t', rfl⟩ := ry; exact PySem.EqNone.eq_none_int (fin_bl I q (by simp))
    | str j => obtain ⟨t', rfl⟩ := ry; exact PySem.EqNone.eq_none_str (fin_bl I q (by simp))
    | _ => exact absurd (show false = true from hs) Bool.false_ne_true
  | bl i =>
    cases rx
    cases y with
    | non => cases ry; exact PySem.EqNone.eq_bool_none (fin_bl I q (by simp))
    | bl j => cases ry; exact eq_bool (fin_bl I q dec_bl)
    | str j => obtain ⟨t', rfl⟩ := ry; exact PySem.EqMixed.eq_bool_str (fin_bl I q (by simp))
    | _ => exact absurd (show false = true from hs) Bool.false_ne_true
  | int i =>
    obtain ⟨t, rfl⟩ := rx
    cases y with
    | non => cases ry; exact PySem.EqNone.eq_int_none (fin_bl I q (by simp))
    | int j => obtain ⟨t', rfl⟩ := ry; exact eq_int (fin_bl I q dec_int)
    | str j => obtain ⟨t', rfl⟩ := ry; exact PySem.EqMixed.eq_int_str (fin_bl I q (by simp))
    | _ => exact absurd (show false = true from hs) Bool.false_ne_true
  | str i =>
    obtain ⟨t, rfl⟩ := rx
    cases y with
    | non => cases ry; exact PySem.EqNone.eq_str_none (fin_bl I q (by simp))
    | bl j => cases ry; exact PySem.EqMixed.eq_str_bool (fin_bl I q (by simp))
    | int j => obtain ⟨t', rfl⟩ := ry; exact PySem.EqMixed.eq_str_int (fin_bl I q (by simp))
    | str j => obtain ⟨t', rfl⟩ := ry; exact eq_str (fin_bl I q dec_str)
    | _ => exact absurd (show false = true from hs) Bool.false_ne_true
  | byt i =>
    obtain ⟨t, rfl⟩ := rx
    cases y with
    | byt j => obtain ⟨t', rfl⟩ := ry; exact PySem.W.eq_bytes (fin_bl I q dec_byt)
    | _ => exact absurd (show false = true from hs) Bool.false_ne_true
  | _ => cases y <;> exact absurd (show false = true from hs) Bool.false_ne_true
theorem op_ne : OpR X (compareOp .NotEq) rNe := by
  intro pins s σ H x y v u Q I rx ry h
  obtain ⟨hs, q⟩ := h
  cases x with
  | non =>
    cases rx
    cases y with
    | non => cases ry; exact PySem.EqNone.ne_none_none (fin_bl I q (by simp))
    | bl j => cases ry; exact PySem.EqNone.ne_none_bool (fin_bl I q (by simp))
    | int j => obtain ⟨t', rfl⟩ := ry; exact PySem.EqNone.ne_none_int (fin_bl I q (by simp))
    | str j => obtain ⟨t', rfl⟩ := ry; exact PySem.EqNone.ne_none_str (fin_bl I q (by simp))
    | _ => exact absurd (show false = true from hs) Bool.false_ne_true
  | bl i =>
    cases rx
    cases y with
    | non => cases ry; exact PySem.EqNone.ne_bool_none (fin_bl I q (by simp))
    | bl j => cases ry; exact ne_bool (fin_bl I q (congrArg not dec_bl))
    | str j => obtain ⟨t', rfl⟩ := ry; exact PySem.EqMixed.ne_bool_str (fin_bl I q (by simp))
    | _ => exact absurd (show false = true from hs) Bool.false_ne_true
  | int i =>
    obtain ⟨t, rfl⟩ := rx
    cases y with
    | non => cases ry; exact PySem.EqNone.ne_int_none (fin_bl I q (by simp))
    | int j => obtain ⟨t', rfl⟩ := ry; exact ne_int (fin_bl I q (congrArg not dec_int))
    | str j => obtain ⟨t', rfl⟩ := ry; exact PySem.EqMixed.ne_int_str (fin_bl I q (by simp))
    | _ => exact absurd (show false = true from hs) Bool.false_ne_true
  | str i =>
    obtain ⟨t, rfl⟩ := rx
    cases y with
    | non => cases ry; exact PySem.EqNone.ne_str_none (fin_bl I q (by simp))
    | bl j => cases ry; exact PySem.EqMixed.ne_str_bool (fin_bl I q (by simp))
    | int j => obtain ⟨t', rfl⟩ := ry; exact PySem.EqMixed.ne_str_int (fin_bl I q (by simp))
    | str j => obtain ⟨t', rfl⟩ := ry; exact ne_str (fin_bl I q (congrArg not dec_str))
    | _ => exact absurd (show false = true from hs) Bool.false_ne_true
  | byt i =>
    obtain ⟨t, rfl⟩ := rx
    cases y with
    | byt j => obtain ⟨t', rfl⟩ := ry; exact PySem.W.ne_bytes (fin_bl I q (congrArg not dec_byt))
    | _ => exact absurd (show false = true from hs) Bool.false_ne_true
  | _ => cases y <;> exact absurd (show false = true from hs) Bool.false_ne_true

theorem op_lt : OpR X (compareOp .Lt) (rI0 fun i j => .bl (decide (i < j))) := opB0 fun _ _ _ _ _ _ _ q => lt_int q
theorem op_le : OpR X (compareOp .LtE) (rI0 fun i j => .bl (decide (i ≤ j))) := opB0 fun _ _ _ _ _ _ _ q => le_int q
theorem op_gt : OpR X (compareOp .Gt) (rI0 fun i j => .bl (decide (j < i))) := opB0 fun _ _ _ _ _ _ _ q => gt_int q




theorem nomark (b : Expr) {op : CmpOp} (h : op ≠ .In := by decide) (h2 : op ≠ .NotIn := by decide) : behindInMarks op b = false := by
  have e1 : (op == CmpOp.In) = false := by cases op <;> first | rfl | exact absurd rfl h
  have e2 : (op == CmpOp.NotIn) = false := by cases op <;> first | rfl | exact absurd rfl h2
  cases b <;> simp [behindInMarks, e1, e2]
/-- a comparison as a value; hm: nomark b, or (for in, not in) by with_unfolding_all rfl -/
theorem pe_cmpR {op : CmpOp} {r : R2} (ho : OpR X (compareOp op) r) (ha : PE X a ta) (hb : PE X b tb) (hm : behindInMarks op b = false) : PE X (.Compare a [op] [b] pos) (tOp r ta tb) := by
  intro pins s σ H Q I h
  exact wpAny_Compare1 (binT ha hb I h fun v u s2 x y H2 I2 rx ry q => ho pins s2 σ H2 x y v u Q I2 rx ry q) hm
/-- a reading of a value as a test -/
inductive TstR (Q : Bool → Hp → Prop) (x : V) (H : Hp) : Prop
  | mk (k : Bool) (e : x = .bl k) (q : Q k H) : TstR Q x H
def tTest (t : TE) : TT := fun σ H Q => t σ H (TstR Q)
theorem pt_cmpR {op : CmpOp} {r : R2} (ho : OpR X (compareOp op) r) (ha : PE X a ta) (hb : PE X b tb) (hm : behindInMarks op b = false) : PT X (.Compare a [op] [b] pos) (tTest (tOp r ta tb)) := by
  intro pins s σ H Q I h
  refine wpAny_isTrue_Compare1 (thn (ha pins s σ H _ I h) fun v s1 ⟨x, H1, I1, r1, q1⟩ => thn (hb pins s1 σ H1 _ I1 q1) fun u s2 ⟨y, H2, I2, r2, q2⟩ =>
    thn (ho pins s2 σ H2 x y v u _ I2 r1 r2 q2) fun c s3 ⟨z, H3, I3, r3, k, e, q3⟩ => ?_) hm
  subst e
  cases r3
  exact wpAny_truthy_bool ⟨H3, I3, q3⟩
/-- a op1 b op2 c -/
def tChain (r r' : R2) (ta tb tc : TE) : TE := fun σ H Q => ta σ H fun x H1 => tb σ H1 fun y H2 => r x y H2 fun z H3 => ∃ k, z = .bl k ∧
  (if k = true then tc σ H3 fun w' H4 => r' y w' H4 Q else Q (.bl false) H3)
theorem pe_chain {op op' : CmpOp} {r r' : R2} (ho : OpR X (compareOp op) r) (ho' : OpR X (compareOp op') r') (ha : PE X a ta) (hb : PE X b tb) (hc : PE X c tc)
    (hm : lastMarks [op, op'] [b, c] = false := by with_unfolding_all rfl) : PE X (.Compare a [op, op'] [b, c] pos) (tChain r r' ta tb tc) := by
  intro pins s σ H Q I h
  refine Compare_chain (thn (ha pins s σ H _ I h) fun v s1 ⟨x, H1, I1, r1, q1⟩ => chain_link (thn (hb pins s1 σ H1 _ I1 q1) fun u s2 ⟨y, H2, I2, r2, q2⟩ =>
    thn (ho pins s2 σ H2 x y v u _ I2 r1 r2 q2) fun d s3 ⟨z, H3, I3, r3, k, e, q3⟩ => ?_)) hm
  subst e
  cases r3
  refine wpAny_truthy_bool ?_
  cases k with
  | false => exact ite_ff ⟨.bl false, H3, I3, rfl, q3⟩
  | true => exact ite_tt (chain_last (thn (hc pins s3 σ H3 _ I3 q3) fun w' s4 ⟨z', H4, I4, r4, q4⟩ => ho' pins s4 σ H4 y z' u w' Q I4 r2 r4 q4))

/-! ### truth -/
theorem line63 : (sizeLine : Nat) < 2 ^ 63 := by rw [sizeLine_eq]; decide

/-! ### strs and bytes -/


/-! ### scalar builtins, by CallR -/
theorem vals1 {x : V} {us : List Value} (r : Vals [x] us) : ∃ u, us = [u] ∧ RelV x u := by
  cases r with
  | cons r1 r2 => cases r2; exact ⟨_, rfl, r1⟩
theorem call_str_int : CallR X (.type "str") (fun xs H Q => ∃ i, xs = [.int i] ∧ i.natAbs.log2 < 1920 ∧ Q (.str (toString i)) H) := by
  intro pins s σ H xs us Q I r h
  obtain ⟨i, rfl, hz, q⟩ := h
  obtain ⟨u, rfl, t, rfl⟩ := vals1 r
  exact PySem.P.str_of_int hz ⟨.str _, H, I.tok _, ⟨_, rfl⟩, q⟩
theorem call_ord : CallR X (.builtin "ord") (fun xs H Q => ∃ x, xs = [.str x] ∧ x.length = 1 ∧ Q (.int (x.cps.getD 0 0 : Nat)) H) := by
  intro pins s σ H xs us Q I r h
  obtain ⟨x, rfl, hz, q⟩ := h
  obtain ⟨u, rfl, t, rfl⟩ := vals1 r
  exact ord_of_one hz ⟨.int _, H, I.tok _, ⟨_, rfl⟩, q⟩
end
end L2

namespace L2
open PySem PySem.Spec PyProof.Rows

/-! ### an instance, its attributes a map -/
structure ObjM (h : Heap) (x dx C : Addr) (mA : Str → Option Value) : Prop where
  obj : h.get? x = some (PySem.W.instObj C dx)
  ns : h.Ns1 dx mA
  ne : dx ≠ x

theorem lookIn_ns {h : Heap} {dx : Addr} {mA : Str → Option Value} (n : h.Ns1 dx mA) : ∃ od, h.get? dx = some od ∧ ∀ name, PySem.W.lookIn name od = some (mA name) := by
  obtain ⟨o, es, ep, ho, hd, hk, _, hm⟩ := n
  refine ⟨o, ho, fun name => ?_⟩
  have e := hm name
  unfold nsFind findBy at e
  rw [← Array.find?_toList] at e
  unfold PySem.W.lookIn
  rw [hd]
  dsimp only
  split
  · rename_i y q
    rw [q] at e
    exact congrArg some e
  · rename_i q
    rw [q] at e
    have a : es.toList.any (·.refKey) = false := by
      rw [List.any_eq_false]
      intro y hy
      obtain ⟨z, t, hkey⟩ := hk y (Array.mem_toList_iff.mp hy)
      simp [DictEntry.refKey, hkey]
    have a' : ¬ es.toList.any (·.refKey) = true := by rw [a]; exact Bool.false_ne_true
    rw [if_neg a']
    exact congrArg some e

theorem ObjM.look {h : Heap} {x dx C : Addr} {mA : Str → Option Value} (I : ObjM h x dx C mA) : ∃ od, PySem.W.InstAt h x (PySem.W.instObj C dx) C (some od) ∧ ∀ name, PySem.W.lookIn name od = some (mA name) :=
  let ⟨od, ho, hl⟩ := lookIn_ns I.ns
  ⟨od, ⟨I.obj, rfl, rfl, ho⟩, hl⟩

section
variable {prog : Program} {w : World} {A : Around} {E : Value → Shared → Prop} {s : Shared} {K : PySem.W.Frag} {x dx C f : Addr} {mA : Str → Option Value} {name : Str} {v : Value}

theorem get_map {expr : Bool} {Q : Value → Shared → Prop} (X : K.In s.heap) (I : ObjM s.heap x dx C mA) (hg : PySem.W.plainGet K C name = true) (hh : PySem.W.hasDictIn K C = true)
    (ha : PySem.W.findIn K (.ref C) name = some none) (hv : mA name = some v) (hv' : PySem.W.handedIn v = true) (h : Q v { s with toks := s.toks + 1 }) :
    wpAny (model prog w) A (getAttr (.ref x) name expr) Q E s := by
  obtain ⟨od, J, hl⟩ := I.look
  exact PySem.W.get_value X J (PySem.W.plainGet_of hg).1 (PySem.W.findObj_own hh ha rfl (by rw [hl, hv])) hv' h


theorem get_meth {pl : Sem Bool} {Q : Value × List Value → Shared → Prop} (X : K.In s.heap) (I : ObjM s.heap x dx C mA) (hg : PySem.W.plainGet K C name = true)
    (hf : PySem.W.findIn K (.ref C) name = some (some (.ref f))) (ht : PySem.W.isFn K (.ref f) = true) (hv : mA name = none) (h : Q (.ref f, [.ref x]) s) :
    wpAny (model prog w) A (getMethod (.ref x) name pl) Q E s := by
  obtain ⟨od, J, hl⟩ := I.look
  exact PySem.W.method_fn X J (PySem.W.plainGet_of hg).1 (PySem.W.plainGet_of hg).2 hf (beq_iff_eq.mp ht) (by show (PySem.W.lookIn name od).map (·.isSome) = some false; rw [hl, hv]; rfl) h

theorem set_map {ns : List Str} {Q : Unit → Shared → Prop} (X : K.In s.heap) (I : ObjM s.heap x dx C mA)
    (hs : PySem.W.findIn K (.ref C) "__setattr__" = some (some (.builtin "object.__setattr__"))) (hp : PySem.W.plainOver K C = true) (ht : PySem.W.takerIn K C name = some none) (hh : PySem.W.hasDictIn K C = true)
    (hw : PySem.Within mA ns) (hsz : ns.length ≤ sizeLine)
    (h : ∀ h', ObjM h' x dx C (fun y => if y = name then some v else mA y) → Heap.SameBut dx s.heap h' → Q () { s with heap := h', toks := s.toks + 2 }) :
    wpAny (model prog w) A (setAttr (.ref x) name v) Q E s := by
  obtain ⟨od, J, hl⟩ := I.look
  refine PySem.W.set_plain X J hs (PySem.W.osa_open (s := { s with toks := s.toks + 1 }) (r := none) X J hp ht fun b => ?_)
  obtain ⟨cd, hc, hd'⟩ := PySem.W.any_some hh
  have hx : s.heap.get? x = some ⟨.ref C, some dx, .plain, #[]⟩ := I.obj
  refine wpAny_bind (wpAny_pure (wpAny_bind (wpAny_bind (wpAny_loadPart hx (wpAny_bind (PySem.W.Looks.here (s := { s with toks := s.toks + 1 }) (PySem.W.looks_clsIn X hc) ?_))))))
  rw [hd']
  refine wpAny_pure (a := some dx) (wpAny_bind (wpAny_pure (wpAny_bind ?_)))
  refine wpAny_nsSet1 (s := { s with toks := s.toks + 1 }) I.ns fun h' hn2 hs2 => ?_
  obtain ⟨oD, esD, epD, hoD, hdD, hcD⟩ := hn2.count (PySem.Within.cons name v hw)
  refine wpAny_bind (wpAny_lookBehind hoD (by rw [hdD]; exact pastItsLine_dict (Nat.le_trans hcD (by rw [List.length_cons]; omega))) ?_)
  exact wpAny_pure (h _ ⟨(hs2.2 _ (Ne.symm I.ne)).trans I.obj, hn2, I.ne⟩ hs2)

/-- C(..): the dict at the heap's end, the instance behind it; then its __init__ -/
theorem make_map {R : Result → Shared → Prop} {vs : List Value} {kw : List (Str × Value)} (X : K.In s.heap) (hm : PySem.W.makesIn K C = true)
    (hi : PySem.W.findIn K (.ref C) "__init__" = some (some (.ref f))) (hf : PySem.W.typeIn K (.ref f) = some (.type "function"))
    (h : codeAny (model prog w) (A.under (.builtin "type.__call__" ⟨.ref C :: vs, kw⟩)) (.call (.ref f) ⟨.ref (s.heap.objs.size + 1) :: vs, kw⟩) (PySem.W.InitBack (s.heap.objs.size + 1) R)
      { s with heap := (s.heap.push PySem.W.emptyDict).push (PySem.W.instObj C s.heap.objs.size) }) :
    codeAny (model prog w) A (.call (.ref C) ⟨vs, kw⟩) R s := by
  obtain ⟨hh, g, d, t, os⟩ := s
  exact PySem.W.make_core (PySem.W.makes_of X hm) (PySem.W.looks_findIn X hi) (fun self => PySem.W.bind_fn X self hf) (.inl rfl) h
end

/-! ### the attributes as a list of pairs -/
def putF (f : Str) (v : V) : List (Str × V) → List (Str × V)
  | [] => [(f, v)]
  | (g, x) :: r => if g = f then (g, v) :: r else (g, x) :: putF f v r
theorem lookup_putF (f g : Str) (v : V) : ∀ fs : List (Str × V), (putF f v fs).lookup g = if g = f then some v else fs.lookup g
  | [] => by
    show List.lookup g [(f, v)] = _
    by_cases h : g = f
    · have hb : (g == f) = true := beq_iff_eq.mpr h
      simp only [List.lookup, hb, if_pos h]
    · have hb : (g == f) = false := beq_eq_false_iff_ne.mpr h
      simp only [List.lookup, hb, if_neg h]
  | (k, x) :: r => by
    have ih := lookup_putF f g v r
    rw [show putF f v ((k, x) :: r) = (if k = f then (k, v) :: r else (k, x) :: putF f v r) from rfl]
    by_cases hk : k = f
    · rw [if_pos hk]
      by_cases h : g = k
      · have hb : (g == k) = true := beq_iff_eq.mpr h
        simp only [List.lookup, hb, if_pos (h.trans hk)]
      · have hb : (g == k) = false := beq_eq_false_iff_ne.mpr h
        simp only [List.lookup, hb, if_neg (fun e : g = f => h (e.trans hk.symm))]
    · rw [if_neg hk]
      by_cases h : g = k
      · have hb : (g == k) = true := beq_iff_eq.mpr h
        simp only [List.lookup, hb, if_neg (fun e : g = f => hk (h.symm.trans e))]
      · have hb : (g == k) = false := beq_eq_false_iff_ne.mpr h
        simp only [List.lookup, hb]
        exact ih
theorem keys_putF (f : Str) (v : V) : ∀ fs : List (Str × V), f ∈ (putF f v fs).map (·.1) ∧ ∀ g, g ∈ fs.map (·.1) → g ∈ (putF f v fs).map (·.1)
  | [] => ⟨by simp [putF], fun g h => by simp at h⟩
  | (k, x) :: r => by
    obtain ⟨i1, i2⟩ := keys_putF f v r
    rw [show putF f v ((k, x) :: r) = (if k = f then (k, v) :: r else (k, x) :: putF f v r) from rfl]
    by_cases hk : k = f
    · rw [if_pos hk]
      subst hk
      exact ⟨by simp, fun g h => by simpa using h⟩
    · rw [if_neg hk]
      refine ⟨?_, fun g h => ?_⟩
      · rw [List.map_cons]
        exact List.mem_cons_of_mem _ i1
      · rw [List.map_cons] at h ⊢
        rcases List.mem_cons.mp h with e | e
        · exact List.mem_cons.mpr (.inl e)
        · exact List.mem_cons_of_mem _ (i2 g e)
theorem length_putF (f : Str) (v : V) : ∀ fs : List (Str × V), (putF f v fs).length ≤ fs.length + 1
  | [] => by simp [putF]
  | (k, x) :: r => by
    have ih := length_putF f v r
    rw [show putF f v ((k, x) :: r) = (if k = f then (k, v) :: r else (k, x) :: putF f v r) from rfl]
    by_cases hk : k = f
    · rw [if_pos hk, List.length_cons, List.length_cons]; omega
    · rw [if_neg hk, List.length_cons, List.length_cons]; omega

theorem RelO.some_of {v : V} {o : Option Value} (r : RelO (some v) o) : ∃ u, o = some u ∧ RelV v u := by
  cases o with
  | none => exact (show False from r).elim
  | some u => exact ⟨u, rfl, r⟩
theorem RelO.none_of {o : Option Value} (r : RelO none o) : o = none := by
  cases o with
  | none => rfl
  | some u => exact (show False from r).elim
theorem handed_of {v : V} {u : Value} (r : RelV v u) : PySem.W.handedIn u = true := by
  cases v with
  | non => cases (show u = Value.none from r); rfl
  | bl b => cases (show u = Value.bool b from r); rfl
  | int i => obtain ⟨t, e⟩ := (show ∃ t, u = Value.int i t from r); cases e; rfl
  | str x => obtain ⟨t, e⟩ := (show ∃ t, u = Value.str x t from r); cases e; rfl
  | byt b => obtain ⟨t, e⟩ := (show ∃ t, u = Value.bytes b t from r); cases e; rfl
  | flt b => obtain ⟨t, e⟩ := (show ∃ t, u = Value.float b t from r); cases e; rfl
  | ref a => cases (show u = Value.ref a from r); rfl
  | ty n => cases (show u = Value.type n from r); rfl

section
variable {P : Program} {w : World} {H H' : Hp} {h h' : Heap} {a C dx : Addr} {fs fs' : List (Str × V)}
theorem ins_get (hok : HOk P w H h) (e : H a = some (.ins C dx fs)) : ∃ mA, ObjM h a dx C mA ∧ (∀ f, RelO (fs.lookup f) (mA f)) ∧ PySem.Within mA (fs.map (·.1)) ∧ fs.length ≤ 1000 ∧ H dx = some (.own a) := by
  obtain ⟨d, z, ne, ob, mA, n, r, q⟩ := (show ObjOk P w H h a (.ins C dx fs) from hok a _ e)
  exact ⟨mA, ⟨ob, n, ne⟩, r, q, z, d⟩
end

/-! ### what of the text a class must have -/
structure Cls (K : PySem.W.Frag) (C : Addr) : Prop where
  pg : PySem.W.plainGet K C Str.empty = true
  hd : PySem.W.hasDictIn K C = true
  po : PySem.W.plainOver K C = true
  sa : PySem.W.findIn K (.ref C) "__setattr__" = some (some (.builtin "object.__setattr__"))
theorem Cls.get {K : PySem.W.Frag} {C : Addr} (c : Cls K C) (f : Str) : PySem.W.plainGet K C f = true := c.pg
/-- no class of it has the name -/
def NoAttr (K : PySem.W.Frag) (C : Addr) (f : Str) : Prop := PySem.W.findIn K (.ref C) f = some none
theorem NoAttr.taker {K : PySem.W.Frag} {C : Addr} {f : Str} (n : NoAttr K C f) : PySem.W.takerIn K C f = some none := by
  unfold PySem.W.takerIn
  rw [show PySem.W.findIn K (.ref C) f = some none from n]
  rfl
/-- a method: a plain def of the class or of one above it -/
structure Meth (K : PySem.W.Frag) (C : Addr) (m : Str) (f : Addr) : Prop where
  at_ : PySem.W.findIn K (.ref C) m = some (some (.ref f))
  fn : PySem.W.isFn K (.ref f) = true
  kp : PySem.W.keepIn K (.ref f) = true

section
variable {X : Cx} {pins : List (Addr × Obj)} {σ : St} {H : Hp} {s : Shared} {a C dx : Addr} {fs : List (Str × V)} {f : Str} {v : V} {A : Around} {E : Value → Shared → Prop}

theorem getattr_ok {b : Bool} {Q : Value → Shared → Prop} (I : Inv X pins σ H s) (e : H a = some (.ins C dx fs)) (c : Cls X.K C) (n : NoAttr X.K C f) (l : fs.lookup f = some v)
    (h : ∀ u s', Inv X pins σ H s' → RelV v u → Q u s') : wpAny (model X.prog X.w) A (getAttr (.ref a) f b) Q E s := by
  obtain ⟨mA, O, r, _, _, _⟩ := ins_get I.hok e
  obtain ⟨u, hu, ru⟩ := RelO.some_of (v := v) (o := mA f) (by rw [← l]; exact r f)
  exact get_map I.kIn O (c.get f) c.hd n hu (handed_of ru) (h u _ (I.tok _) ru)


theorem getmeth_ok {m : Str} {g : Addr} {pl : Sem Bool} {Q : Value × List Value → Shared → Prop} (I : Inv X pins σ H s) (e : H a = some (.ins C dx fs)) (c : Cls X.K C) (k : Meth X.K C m g) (l : fs.lookup m = none)
    (h : Q (.ref g, [.ref a]) s) : wpAny (model X.prog X.w) A (getMethod (.ref a) m pl) Q E s := by
  obtain ⟨mA, O, r, _, _, _⟩ := ins_get I.hok e
  have hn : mA m = none := RelO.none_of (by rw [← l]; exact r m)
  exact get_meth I.kIn O (c.get m) k.at_ k.fn hn h

theorem setattr_ok {y : V} {u : Value} {Q : Unit → Shared → Prop} (I : Inv X pins σ H s) (e : H a = some (.ins C dx fs)) (c : Cls X.K C) (n : NoAttr X.K C f) (hl : fs.length < 1000) (ry : RelV y u)
    (h : ∀ s', Inv X pins σ (upd H a (.ins C dx (putF f y fs))) s' → Q () s') : wpAny (model X.prog X.w) A (setAttr (.ref a) f u) Q E s := by
  obtain ⟨mA, O, r, wi, _, ho⟩ := ins_get I.hok e
  have hz : (fs.map (·.1)).length ≤ sizeLine := by rw [List.length_map, sizeLine_eq]; omega
  refine set_map I.kIn O c.sa c.po n.taker c.hd wi hz fun h' O' sb => h _ ?_
  have hd : ∃ o, h'.get? dx = some o := let ⟨o, _, _, e', _⟩ := O'.ns; ⟨o, e'⟩
  refine I.write (x := a) (e := dx) (by rw [e]; exact True.intro) (.inr ho) (fun b q hb z => (sb.2 b hb).trans z) hd ?_
  refine ⟨by rw [upd_ne O.ne]; exact ho, ?_, O.ne, O'.obj, _, O'.ns, fun g => ?_, fun g hg => ?_⟩
  · have := length_putF f y fs; omega
  · show RelO ((putF f y fs).lookup g) (if g = f then some u else mA g)
    rw [lookup_putF]
    by_cases q : g = f
    · rw [if_pos q, if_pos q]; exact ry
    · rw [if_neg q, if_neg q]; exact r g
  · by_cases q : g = f
    · rw [q]; exact (keys_putF f y fs).1
    · refine (keys_putF f y fs).2 g (wi g fun z => hg ?_)
      show (if g = f then some u else mA g) = none
      rw [if_neg q]; exact z

/-- a new instance, tracked, without attributes -/
theorem Inv.made (I : Inv X pins σ H s) : Inv X pins σ (upd (upd H s.heap.objs.size (.own (s.heap.objs.size + 1))) (s.heap.objs.size + 1) (.ins C s.heap.objs.size []))
    { s with heap := (s.heap.push PySem.W.emptyDict).push (PySem.W.instObj C s.heap.objs.size) } := by
  have e1 : (s.heap.push PySem.W.emptyDict).get? s.heap.objs.size = some PySem.W.emptyDict := Heap.get?_push_size s.heap rfl
  have e2 : ((s.heap.push PySem.W.emptyDict).push (PySem.W.instObj C s.heap.objs.size)).get? (s.heap.objs.size + 1) = some (PySem.W.instObj C s.heap.objs.size) := by
    have := Heap.get?_push_size (s.heap.push PySem.W.emptyDict) (o := PySem.W.instObj C s.heap.objs.size) rfl
    rwa [Heap.size_push] at this
  have e3 : (s.heap.push PySem.W.emptyDict).Ns s.heap.objs.size (fun _ => none) := ⟨PySem.W.emptyDict, #[], _, e1, rfl, (fun e he => absurd he (by simp)), fun _ => rfl⟩
  have I1 := I.laid (a := s.heap.objs.size) (o := .own (s.heap.objs.size + 1)) (h' := s.heap.push PySem.W.emptyDict) (t' := s.toks) (fun b u q => Heap.get?_push_of_some _ q) (Nat.le_refl _) ⟨_, e1⟩
  refine I1.laid (a := s.heap.objs.size + 1) (o := .ins C s.heap.objs.size []) (t' := s.toks) (fun b u q => Heap.get?_push_of_some _ q) (Nat.le_of_eq (Heap.size_push _ _)) ?_
  have ne : s.heap.objs.size ≠ s.heap.objs.size + 1 := Nat.ne_of_lt (Nat.lt_succ_self _)
  refine ⟨by rw [upd_ne ne, upd_same], Nat.zero_le _, ne, e2, fun _ => none, (Heap.Ns1.of_empty e3).at fun o q => Heap.get?_push_of_some _ q, fun _ => True.intro, fun y hy => absurd rfl hy⟩

/-- e.f where nothing but the object is asked: through attributeBase (super) and the last hold -/
theorem attr_of {prog : Program} {w : World} {env : Env} {e : Expr} {f : Str} {pos : Pos} {s : Shared} {Q : Value → Shared → Prop} (hb : attributeBase e f env (eval e env) = eval e env)
    (h : wpAny (model prog w) A (eval e env) (fun o s₁ => wpAny (model prog w) A (getAttr o f true) Q E s₁) E s) : wpAny (model prog w) A (eval (.Attribute e f pos) env) Q E s :=
  Attribute_any_ h (by rw [arm_eval_Attribute, hb])
end

/-! ### readings and rules -/
/-- e.f, an attribute of the instance -/
inductive FldR (K : PySem.W.Frag) (f : Str) (Q : VK) (x : V) (H1 : Hp) : Prop
  | mk (a C dx : Addr) (fs : List (Str × V)) (v : V) (e : x = .ref a) (h : H1 a = some (.ins C dx fs)) (c : Cls K C) (n : NoAttr K C f) (l : fs.lookup f = some v) (q : Q v H1) : FldR K f Q x H1
def tFld (K : PySem.W.Frag) (ta : TE) (f : Str) : TE := fun σ H Q => ta σ H (FldR K f Q)
/-- e.f = value -/
def sFld (K : PySem.W.Frag) (ta tv : TE) (f : Str) : TS := fun D σ H => tv σ H fun y H1 => ta σ H1 fun x H2 => ∃ a C dx fs, x = .ref a ∧ H2 a = some (.ins C dx fs) ∧ Cls K C ∧ NoAttr K C f ∧ fs.length < 1000 ∧
  D.nx σ (upd H2 a (.ins C dx (putF f y fs)))
/-- an augmented operator on two values -/
def InOp (X : Cx) (op : Operator) (rd : V → V → Hp → VK → Prop) : Prop :=
  ∀ (pins : List (Addr × Obj)) (s : Shared) (σ : St) (H : Hp) (x y : V) (u v : Value) (Q : VK), Inv X pins σ H s → RelV x u → RelV y v → rd x y H Q → wpAny (model X.prog X.w) X.A (inplaceOp op u v) (EP X pins σ Q) X.xe s
/-- e.f op= value -/
def sFldAug (K : PySem.W.Frag) (ta tv : TE) (rd : V → V → Hp → VK → Prop) (f : Str) : TS := fun D σ H => ta σ H fun x H1 => ∃ a C dx fs v, x = .ref a ∧ H1 a = some (.ins C dx fs) ∧ Cls K C ∧ NoAttr K C f ∧ fs.lookup f = some v ∧
  tv σ H1 fun y H2 => rd v y H2 fun z H3 => ∃ dx' fs', H3 a = some (.ins C dx' fs') ∧ fs'.length < 1000 ∧ D.nx σ (upd H3 a (.ins C dx' (putF f z fs')))

section
variable {X : Cx} {o e value : Expr} {f : Str} {pos pos' tpos : Pos} {ta tv : TE}
theorem pe_fld (he : PE X e ta) (hb : attributeBase e f X.env (eval e X.env) = eval e X.env) : PE X (.Attribute e f pos) (tFld X.K ta f) := by
  intro pins s σ H Q I h
  refine attr_of hb (thn (he pins s σ H _ I h) fun u s1 hq9 => ?_)
  obtain ⟨x, H1, I1, rx, a, C, dx, fs, v, ex, ea, c, n, l, q⟩ := hq9
  subst ex
  obtain rfl : u = Value.ref a := rx
  exact getattr_ok I1 ea c n l fun u' s2 I2 ru => ⟨v, H1, I2, ru, q⟩
theorem ps_fld (ha : PE X o ta) (hv : PE X value tv) (hs : swapsWith value (some (.Attribute o f pos')) pos.line X.env = pure false) : PS X (.Assign [.Attribute o f pos'] value pos) (sFld X.K ta tv f) := by
  intro pins s σ H D I h
  refine plainObj_wpAny_Assign_Attribute (thn (hv pins s σ H _ I h) fun u s1 ⟨y, H1, I1, ry, q⟩ => thn (ha pins s1 σ H1 _ I1 q) fun ov s2 hq9 => ?_) hs
  obtain ⟨x, H2, I2, rx, a, C, dx, fs, ex, ea, c, n, l, q2⟩ := hq9
  subst ex
  obtain rfl : ov = Value.ref a := rx
  exact setattr_ok I2 ea c n l ry fun s3 I3 => ⟨σ, _, I3, q2⟩
theorem ps_fldaug {op : Operator} {rd : V → V → Hp → VK → Prop} (ha : PE X o ta) (hv : PE X value tv) (hop : InOp X op rd) : PS X (.AugAssign (.Attribute o f tpos) op value pos) (sFldAug X.K ta tv rd f) := by
  intro pins s σ H D I h
  refine wpAny_AugAssign_AttributeAny (thn (ha pins s σ H _ I h) fun ov s1 hq9 => ?_)
  obtain ⟨x, H1, I1, rx, a, C, dx, fs, v, ex, ea, c, n, l, q⟩ := hq9
  subst ex
  obtain rfl : ov = Value.ref a := rx
  refine getattr_ok I1 ea c n l fun u s2 I2 ru => thn (hv pins s2 σ H1 _ I2 q) fun w3 s3 ⟨y, H2, I3, ry, q3⟩ => thn (hop pins s3 σ H2 v y u w3 _ I3 ru ry q3) fun w4 s4 hq9 => ?_
  obtain ⟨z, H3, I4, rz, dx', fs', ea', l', q4⟩ := hq9
  exact setattr_ok I4 ea' c n l' rz fun s5 I5 => ⟨σ, _, I5, q4⟩
def rAdd : V → V → Hp → VK → Prop := fun x y H Q => ∃ i j, x = .int i ∧ y = .int j ∧ Q (.int (i + j)) H
theorem in_add : InOp X .Add rAdd := by
  rintro pins s σ H x y u v Q I rx ry ⟨i, j, rfl, rfl, q⟩
  obtain ⟨t, rfl⟩ := (show ∃ t, u = Value.int i t from rx)
  obtain ⟨t', rfl⟩ := (show ∃ t', v = Value.int j t' from ry)
  exact PyProof.Rows.iadd_int ⟨.int (i + j), H, I.tok _, ⟨_, rfl⟩, q⟩

/-- what is between an instance and its method: the tree of a method call -/
theorem methcall_of {pl : Sem Bool} {m : Str} {apos : Pos} {args : List Expr} {pins : List (Addr × Obj)} {s : Shared} {σ : St} {H : Hp} {Q : Value → Shared → Prop} {te : TE} (he : PE X e te) (I : Inv X pins σ H s)
    (h : te σ H fun x H1 => ∃ a C dx fs g, x = .ref a ∧ H1 a = some (.ins C dx fs) ∧ Cls X.K C ∧ Meth X.K C m g ∧ fs.lookup m = none ∧
      ∀ s1, Inv X pins σ H1 s1 → wpAny (model X.prog X.w) X.A (callWith pos (.ref g) [.ref a] (backTo pos (starEach args X.env)) (backToKw pos (keywordEach [] X.env))) Q X.xe s1)
    (ht : eval (.Call (.Attribute e m apos) args [] pos) X.env = (do
      let ov ← eval e X.env
      standAt apos.atName
      let (f, first) ← holding [ov] (getMethod ov m pl)
      callWith pos f first (backTo pos (starEach args X.env)) (backToKw pos (keywordEach [] X.env)))) :
    wpAny (model X.prog X.w) X.A (eval (.Call (.Attribute e m apos) args [] pos) X.env) Q X.xe s := by
  refine PySem.W.methodCall_KW (pl := pl) (thn (he pins s σ H _ I h) fun u s1 hq9 => ?_) ht
  obtain ⟨x, H1, I1, rx, a, C, dx, fs, g, ex, ea, c, k, l, q⟩ := hq9
  subst ex
  obtain rfl : u = Value.ref a := rx
  exact getmeth_ok I1 ea c k l (q s1 I1)
end

/-! ### isinstance -/
end L2

namespace L2
open PySem PySem.Spec PyProof.Rows

/-! ### room -/
structure Room (k : Nat) (A : Around) : Prop where
  hd : A.handled = none
  dp : A.depth + 3 * k + 5 < recursionLimit
  un : A.units + 16 * k + 200 < cLine
theorem Room.mono {j k : Nat} {A : Around} (r : Room k A) (h : j ≤ k) : Room j A := ⟨r.hd, by have := r.dp; omega, by have := r.un; omega⟩
theorem Room.deeper {k : Nat} {A : Around} (r : Room (k + 1) A) (env : Env) : Room k (A.deeper env) :=
  ⟨r.hd, by have := r.dp; show A.depth + 1 + 3 * k + 5 < _; omega, by have := r.un; show A.units + 3 + 16 * k + 200 < _; omega⟩
theorem Room.in1 {k : Nat} {A : Around} (r : Room (k + 1) A) : Room k A.in1 :=
  ⟨r.hd, by have := r.dp; show A.depth + 3 * k + 5 < _; omega, by have := r.un; show A.units + 1 + 16 * k + 200 < _; omega⟩
theorem make_depth {A : Around} {C : Addr} {us : List Value} {kw : List (Str × Value)} : (A.under (.builtin "type.__call__" ⟨.ref C :: us, kw⟩)).depth = A.depth + 1 := by
  first | rfl | simp [Around.under, Code.weight, Code.isCreation, Code.isGuard, Code.isCaller, Code.frames, Code.isFrame, guardIds]
theorem make_units {A : Around} {C : Addr} {us : List Value} {kw : List (Str × Value)} : (A.under (.builtin "type.__call__" ⟨.ref C :: us, kw⟩)).units = A.units + 1 := by
  first | rfl | simp [Around.under, Code.cUnits, Code.frames, Code.isFrame]
theorem Room.make {k : Nat} {A : Around} (r : Room (k + 1) A) (C : Addr) (us : List Value) (kw : List (Str × Value)) : Room k (A.under (.builtin "type.__call__" ⟨.ref C :: us, kw⟩)) :=
  ⟨r.hd, by have := r.dp; rw [make_depth]; omega, by have := r.un; rw [make_units]; omega⟩
theorem Room.depth {k : Nat} {A : Around} (r : Room k A) : A.depth < recursionLimit := by have := r.dp; omega
theorem Room.units {k : Nat} {A : Around} (r : Room k A) : A.units + 64 < cLine := by have := r.un; omega

/-! ### argument lists and displays -/
def tNil : TA := fun _ H Q => Q [] H
def tCons (ta : TE) (tr : TA) : TA := fun σ H Q => ta σ H fun x H1 => tr σ H1 fun xs H2 => Q (x :: xs) H2
section
variable {X : Cx} {e : Expr} {es : List Expr} {te : TE} {t : TA} {pos : Pos}
theorem pa_nil : PA X [] tNil := fun _ _ _ _ H Q I h => Calls.spliced_nil ⟨[], H, I, .nil, h⟩
theorem pa_cons (ha : PE X e te) (hr : PA X es t) (hs : starEach (e :: es) X.env = (false, eval e X.env) :: starEach es X.env := by rfl) : PA X (e :: es) (tCons te t) := by
  intro pos pins s σ H Q I h
  rw [hs]
  show wpAny _ _ (spliced ((false, eval e X.env) :: backTo pos (starEach es X.env))) _ _ s
  refine Calls.spliced_cons (thn (ha pins s σ H _ I h) fun u s1 hq9 => ?_)
  obtain ⟨x, H1, I1, r1, q1⟩ := hq9
  exact thn (hr pos pins s1 σ H1 _ I1 q1) fun us s2 ⟨xs, H2, I2, r2, q2⟩ => ⟨x :: xs, H2, I2, .cons r1 r2, q2⟩

/-- a tuple, a list of written items -/
def tTup (t : TA) : TE := fun σ H Q => t σ H fun xs H1 => xs.length ≤ sizeLine ∧ ∀ p, H1 p = none → Q (.ref p) (upd H1 p (.tup xs))
def tLst (t : TA) : TE := fun σ H Q => t σ H fun xs H1 => xs.length ≤ sizeLine ∧ ∀ p, H1 p = none → Q (.ref p) (upd H1 p (.lst xs))
theorem pe_tup {x1} (h : PA X es t) : PE X (.Tuple es x1 pos) (tTup t) := by
  intro pins s σ H Q I hq
  refine wpAny_Tuple_spliced (thn (h pos pins s σ H _ I hq) fun us s1 ⟨xs, H1, I1, r, z, q⟩ => ⟨by rw [← r.length]; exact z, ?_⟩)
  have hf : H1 s1.heap.objs.size = none := I1.hok.fresh (Nat.le_refl _)
  refine ⟨.ref s1.heap.objs.size, upd H1 s1.heap.objs.size (.tup xs), I1.laid (t' := s1.toks) (fun b u e => Heap.get?_push_of_some _ e) (Nat.le_refl _) ?_, rfl, q _ hf⟩
  exact ⟨z, us, r, ⟨_, Heap.get?_push_size _ rfl, rfl, _, rfl⟩⟩
theorem pe_lst (h : PA X es t) : PE X (.List es pos) (tLst t) := by
  intro pins s σ H Q I hq
  refine wpAny_List_spliced (thn (h pos pins s σ H _ I hq) fun us s1 ⟨xs, H1, I1, r, z, q⟩ => ⟨by rw [← r.length]; exact z, ?_⟩)
  have hf : H1 s1.heap.objs.size = none := I1.hok.fresh (Nat.le_refl _)
  refine ⟨.ref s1.heap.objs.size, upd H1 s1.heap.objs.size (.lst xs), I1.laid (t' := s1.toks) (fun b u e => Heap.get?_push_of_some _ e) (Nat.le_refl _) ?_, rfl, q _ hf⟩
  exact ⟨z, us, 0, r, Heap.get?_push_size _ rfl⟩
end

/-! ### what a def promises -/
/-- a def's promise: the bound arguments in the parameters' order, the heap, the wanted end, the wanted exception -/
abbrev Sp := List V → Hp → VK → XK → Prop
/-- how an exception lies behind a call (file 08 gives it): the callers' frames, abstract heap and state ahead of the call, the wish, the exception, the state -/
abbrev CXT := List Env → Hp → Shared → XK → Value → Shared → Prop

/-- the state at a call -/
structure Env0 (P : Program) (w : World) (K : PySem.W.Frag) (mg : Str → Option Value) (base : Heap) (A : Around) (outer : List Env) (s : Shared) (H : Hp) : Prop where
  frames : A.frames = some outer
  mod : Mod K mg base
  bs : ∀ b o, base.get? b = some o → s.heap.get? b = some o ∧ H b = none
  bsz : base.objs.size ≤ s.heap.objs.size
  funs : s.heap.FunFrames base outer
  frf : ∀ b ∈ frs outer, H b = none
  hok : HOk P w H s.heap
  bare : AllBare s.gens
/-- a call's end -/
inductive CE (outer : List Env) (P : Program) (w : World) (H : Hp) (s : Shared) (Q : VK) (u : Value) (s' : Shared) : Prop
  | mk (v : V) (H' : Hp) (os : s'.os = s.os) (bare : AllBare s'.gens) (un : Un (frs outer) [] H H' s.heap s'.heap) (hok : HOk P w H' s'.heap) (r : RelV v u) (q : Q v H') : CE outer P w H s Q u s'
def CR (CX : CXT) (outer : List Env) (P : Program) (w : World) (H : Hp) (s : Shared) (Q : VK) (E : XK) (r : Result) (s' : Shared) : Prop :=
  match r with
  | .ok (.ret u) => CE outer P w H s Q u s'
  | .ok _ => False
  | .error e => CX outer H s E e s'
structure FnOk (P : Program) (w : World) (K : PySem.W.Frag) (mg : Str → Option Value) (base : Heap) (CX : CXT) (k : Nat) (f : Addr) (fd : FuncData) (ps : List Str) (sp : Sp) : Prop where
  len : ∀ vs H Q E, sp vs H Q E → vs.length = ps.length
  run : ∀ (A : Around) (outer : List Env) (s : Shared) (H : Hp) (args : Args) (us : List Value) (vs : List V) (Q : VK) (E : XK), Room k A → Env0 P w K mg base A outer s H → BindsTo s fd args (ps.zip us) → Vals vs us → sp vs H Q E →
    codeAny (model P w) A (.call (.ref f) args) (CR CX outer P w H s Q E) s

theorem Env0.make {P : Program} {w : World} {K : PySem.W.Frag} {mg : Str → Option Value} {base : Heap} {A : Around} {outer : List Env} {s : Shared} {H : Hp} (e : Env0 P w K mg base A outer s H) (C : Addr) (us : List Value) (kw : List (Str × Value)) :
    Env0 P w K mg base (A.under (.builtin "type.__call__" ⟨.ref C :: us, kw⟩)) outer s H := ⟨by first | exact e.frames | (simpa [Around.under, Code.envs, Code.isFrame, pushEnvs] using e.frames), e.mod, e.bs, e.bsz, e.funs, e.frf, e.hok, e.bare⟩

section
variable {X : Cx} {pins : List (Addr × Obj)} {σ : St} {H : Hp} {s s' : Shared}
/-- from a body: what a callee wants -/
theorem Inv.env0 (I : Inv X pins σ H s) : Env0 X.prog X.w X.K X.mg X.base X.A X.stack s H :=
  ⟨I.ok.frames, I.ok.mod, I.bs, Nat.le_trans I.ok.bsz I.sz, I.stack, I.stkFree, I.hok, I.bare⟩
/-- behind a call -/
theorem Inv.after {Q : VK} {u : Value} (I : Inv X pins σ H s) (h : CE X.stack X.prog X.w H s Q u s') : EP X pins σ Q u s' := by
  obtain ⟨v, H', os, bare, un, hok, r, q⟩ := h
  obtain ⟨hh, g, d, t, os'⟩ := s'
  obtain rfl : os' = s.os := os
  exact ⟨v, H', I.call (h' := hh) (g' := g) (d' := d) (t' := t) (ch := []) un hok bare (fun b z => absurd z (by simp)), r, q⟩
end

/-! ### calls -/
/-- f(..): the written arguments, then the defaults dvs; E: what is wanted of an exception -/
def tCall (sp : Sp) (dvs : List V) (E : XK) (t : TA) : TE := fun σ H Q => t σ H fun vs H1 => sp (vs ++ dvs) H1 Q E
/-- o.m(..) of an instance of the class at C -/
inductive MethR (C : Addr) (m : Str) (sp : Sp) (dvs : List V) (E : XK) (t : TA) (σ : St) (Q : VK) (x : V) (H1 : Hp) : Prop
  | mk (a dx : Addr) (fs : List (Str × V)) (e : x = .ref a) (h : H1 a = some (.ins C dx fs)) (l : fs.lookup m = none) (q : t σ H1 fun vs H2 => sp (x :: (vs ++ dvs)) H2 Q E) : MethR C m sp dvs E t σ Q x H1
def tMeth (C : Addr) (m : Str) (sp : Sp) (dvs : List V) (E : XK) (ta : TE) (t : TA) : TE := fun σ H Q => ta σ H (MethR C m sp dvs E t σ Q)
/-- C(..): a new instance and its dict, then __init__ -/
def tMake (C : Addr) (sp : Sp) (dvs : List V) (E : XK) (t : TA) : TE := fun σ H Q => t σ H fun vs H1 => ∀ x dx, H1 x = none → H1 dx = none → dx ≠ x →
  sp (.ref x :: (vs ++ dvs)) (upd (upd H1 dx (.own x)) x (.ins C dx [])) (fun v H2 => v = .non ∧ Q (.ref x) H2) E

/-- how the parameters are bound: us the positional arguments, kw the keywords' values by name, ds the defaults that fill up -/
def Binds (K : PySem.W.Frag) (fd : FuncData) (ps : List Str) (ds : List Value) : Prop :=
  ∀ (s : Shared) (us : List Value), K.In s.heap → (us ++ ds).length = ps.length → BindsTo s fd ⟨us, []⟩ (ps.zip (us ++ ds))
/-- every parameter is given -/
theorem Binds.all {K : PySem.W.Frag} {fd : FuncData} {ps : List Str} (h : ∀ us : List Value, us.length = ps.length → bindArgs fd ⟨us, []⟩ = pure (ps.zip us)) : Binds K fd ps [] := fun s us _ hl => by
  rw [List.append_nil] at hl ⊢
  exact .of_eq (h us hl)

/-- an exception of a callee reaches what this body wants of exceptions -/
def Passes (CX : CXT) (X : Cx) (E : XK) : Prop := ∀ (pins : List (Addr × Obj)) (σ : St) (H : Hp) (s : Shared) (e : Value) (s' : Shared), Inv X pins σ H s → CX X.stack H s E e s' → X.xe e s'

section
variable {X : Cx} {CX : CXT} {k : Nat} {f C : Addr} {fd : FuncData} {ps : List Str} {sp : Sp} {dvs : List V} {ds : List Value} {E : XK} {x m : Str} {p pos apos : Pos} {e o : Expr} {es : List Expr} {ta : TE} {t : TA}

/-- the callee runs -/
theorem run_fn {pins : List (Addr × Obj)} {σ : St} {H : Hp} {s : Shared} {Q : VK} {us : List Value} {vs : List V} (F : FnOk X.prog X.w X.K X.mg X.base CX k f fd ps sp) (hr : Room k X.A) (hb : Binds X.K fd ps ds) (hd : Vals dvs ds) (hx : Passes CX X E)
    (I : Inv X pins σ H s) (r : Vals vs us) (h : sp (vs ++ dvs) H Q E) : wpAny (model X.prog X.w) X.A (call (.ref f) us) (EP X pins σ Q) X.xe s := by
  have r2 : Vals (vs ++ dvs) (us ++ ds) := r.append hd
  have hl : (us ++ ds).length = ps.length := by rw [← r2.length]; exact F.len _ _ _ _ h
  refine wpAny_call (codeAny_mono (F.run X.A X.stack s H ⟨us, []⟩ (us ++ ds) (vs ++ dvs) Q E hr I.env0 (hb s us I.kIn hl) r2 h) fun r s' hq => ?_)
  cases r with
  | error e => exact hx pins σ H s e s' I hq
  | ok fl =>
    cases fl with
    | ret u => exact I.after hq
    | next => exact False.elim hq
    | brk => exact False.elim hq
    | cont => exact False.elim hq

theorem pe_call (F : FnOk X.prog X.w X.K X.mg X.base CX k f fd ps sp) (hr : Room k X.A) (hg : Gl X x) (hm : X.mg x = some (.ref f)) (hk : PySem.W.keepIn X.K (.ref f) = true) (hb : Binds X.K fd ps ds) (hd : Vals dvs ds) (hx : Passes CX X E)
    (ha : PA X (e :: es) t) (hdb : (x == ("__debug__" : Str)) = false := by decide) (he : starEach (e :: es) X.env = (false, eval e X.env) :: starEach es X.env := by rfl) (hpl : (backTo pos (starEach es X.env)).any (·.1) = false := by rfl) :
    PE X (.Call (.Name x p) (e :: es) [] pos) (tCall sp dvs E t) := by
  intro pins s σ H Q I h
  refine wpAny_Call_Name_kw (ld_glob I hg hm ?_ hdb)
  refine PySem.W.callWith_K (h₀ := X.base) I.ok.mod.kin hk (thn (ha pos pins s σ H _ I h) fun us s1 hq9 => ?_) he hpl
  obtain ⟨vs, H1, I1, r, q⟩ := hq9
  refine ⟨I1.kIn, ?_⟩
  exact run_fn F hr hb hd hx I1 r q

/-- o.m(e, ..) -/
theorem pe_meth {pl : Sem Bool} (he : PE X o ta) (c : Cls X.K C) (hm : Meth X.K C m f) (F : FnOk X.prog X.w X.K X.mg X.base CX k f fd ps sp) (hr : Room k X.A) (hb : Binds X.K fd ps ds) (hd : Vals dvs ds) (hx : Passes CX X E) (ha : PA X (e :: es) t)
    (hst : starEach (e :: es) X.env = (false, eval e X.env) :: starEach es X.env := by rfl) (hpl : (backTo pos (starEach es X.env)).any (·.1) = false := by rfl)
    (ht : eval (.Call (.Attribute o m apos) (e :: es) [] pos) X.env = (do
      let ov ← eval o X.env
      standAt apos.atName
      let (f, first) ← holding [ov] (getMethod ov m pl)
      callWith pos f first (backTo pos (starEach (e :: es) X.env)) (backToKw pos (keywordEach [] X.env))) := by rfl) :
    PE X (.Call (.Attribute o m apos) (e :: es) [] pos) (tMeth C m sp dvs E ta t) := by
  intro pins s σ H Q I h
  refine PySem.W.methodCall_KW (pl := pl) (thn (he pins s σ H _ I h) fun u s1 hq9 => ?_) ht
  obtain ⟨x, H1, I1, rx, a, dx, fs, ex, ea, l, q⟩ := hq9
  subst ex
  obtain rfl : u = Value.ref a := rx
  refine getmeth_ok I1 ea c hm l ?_
  refine PySem.W.callWith_K (first := [.ref a]) (h₀ := X.base) I.ok.mod.kin hm.kp (thn (ha pos pins s1 σ H1 _ I1 q) fun us s2 hq9 => ?_) hst hpl
  obtain ⟨vs, H2, I2, r, q2⟩ := hq9
  refine ⟨I2.kIn, ?_⟩
  exact run_fn (us := .ref a :: us) (vs := .ref a :: vs) F hr hb hd hx I2 (.cons rfl r) q2
/-- o.m() -/
theorem pe_meth0 {pl : Sem Bool} (he : PE X o ta) (c : Cls X.K C) (hm : Meth X.K C m f) (F : FnOk X.prog X.w X.K X.mg X.base CX k f fd ps sp) (hr : Room k X.A) (hb : Binds X.K fd ps ds) (hd : Vals dvs ds) (hx : Passes CX X E)
    (ht : eval (.Call (.Attribute o m apos) [] [] pos) X.env = (do
      let ov ← eval o X.env
      standAt apos.atName
      let (f, first) ← holding [ov] (getMethod ov m pl)
      callWith pos f first (backTo pos (starEach [] X.env)) (backToKw pos (keywordEach [] X.env))) := by rfl) :
    PE X (.Call (.Attribute o m apos) [] [] pos) (tMeth C m sp dvs E ta tNil) := by
  intro pins s σ H Q I h
  refine PySem.W.methodCall_KW (pl := pl) (thn (he pins s σ H _ I h) fun u s1 hq9 => ?_) ht
  obtain ⟨x, H1, I1, rx, a, dx, fs, ex, ea, l, q⟩ := hq9
  subst ex
  obtain rfl : u = Value.ref a := rx
  refine getmeth_ok I1 ea c hm l ?_
  exact PySem.W.callWith_K0 (first := [.ref a]) I1.kIn hm.kp (run_fn (us := [.ref a]) (vs := [.ref a]) F hr hb hd hx I1 (.cons rfl .nil) q)

/-- what a class must have to be made -/
structure Mk (K : PySem.W.Frag) (C f : Addr) : Prop where
  makes : PySem.W.makesIn K C = true
  init : PySem.W.findIn K (.ref C) "__init__" = some (some (.ref f))
  fn : PySem.W.isFn K (.ref f) = true
  kp : PySem.W.keepIn K (.ref C) = true

theorem run_make {pins : List (Addr × Obj)} {σ : St} {H : Hp} {s : Shared} {Q : VK} {us : List Value} {vs : List V} (M : Mk X.K C f) (F : FnOk X.prog X.w X.K X.mg X.base CX k f fd ps sp) (hr : Room (k + 1) X.A) (hb : Binds X.K fd ps ds) (hd : Vals dvs ds)
    (hx : Passes CX X E) (I : Inv X pins σ H s) (r : Vals vs us)
    (h : ∀ x dx, H x = none → H dx = none → dx ≠ x → sp (.ref x :: (vs ++ dvs)) (upd (upd H dx (.own x)) x (.ins C dx [])) (fun v H2 => v = .non ∧ Q (.ref x) H2) E) :
    wpAny (model X.prog X.w) X.A (call (.ref C) us) (EP X pins σ Q) X.xe s := by
  have hq := h (s.heap.objs.size + 1) s.heap.objs.size (I.hok.fresh (Nat.le_succ _)) (I.hok.fresh (Nat.le_refl _)) (Nat.ne_of_lt (Nat.lt_succ_self _))
  have I2 := Inv.made (C := C) I
  have r2 : Vals (V.ref (s.heap.objs.size + 1) :: (vs ++ dvs)) (Value.ref (s.heap.objs.size + 1) :: (us ++ ds)) := .cons rfl (r.append hd)
  have hl : (Value.ref (s.heap.objs.size + 1) :: us ++ ds).length = ps.length := by
    have e := r2.length
    rw [F.len _ _ _ _ hq] at e
    exact e.symm
  refine wpAny_call (make_map (f := f) I.kIn M.makes M.init (beq_iff_eq.mp M.fn) (codeAny_mono (F.run _ X.stack _ _ ⟨Value.ref (s.heap.objs.size + 1) :: us, []⟩ (Value.ref (s.heap.objs.size + 1) :: (us ++ ds)) _ _ E (hr.make C us [])
    (I2.env0.make C us []) (hb _ (Value.ref (s.heap.objs.size + 1) :: us) I2.kIn hl) r2 hq) fun r s' hq' => ?_))
  cases r with
  | error e => exact hx pins σ _ _ e s' I2 hq'
  | ok fl =>
    cases fl with
    | ret u =>
      obtain ⟨v, H', I3, rv, ev, q3⟩ := I2.after hq'
      subst ev
      exact ⟨rv, ⟨V.ref (s.heap.objs.size + 1), H', I3, rfl, q3⟩⟩
    | next => exact False.elim hq'
    | brk => exact False.elim hq'
    | cont => exact False.elim hq'
theorem pe_make (M : Mk X.K C f) (F : FnOk X.prog X.w X.K X.mg X.base CX k f fd ps sp) (hr : Room (k + 1) X.A) (hg : Gl X x) (hm : X.mg x = some (.ref C)) (hb : Binds X.K fd ps ds) (hd : Vals dvs ds) (hx : Passes CX X E)
    (ha : PA X (e :: es) t) (hdb : (x == ("__debug__" : Str)) = false := by decide) (he : starEach (e :: es) X.env = (false, eval e X.env) :: starEach es X.env := by rfl) (hpl : (backTo pos (starEach es X.env)).any (·.1) = false := by rfl) :
    PE X (.Call (.Name x p) (e :: es) [] pos) (tMake C sp dvs E t) := by
  intro pins s σ H Q I h
  refine wpAny_Call_Name_kw (ld_glob I hg hm ?_ hdb)
  refine PySem.W.callWith_K (h₀ := X.base) I.ok.mod.kin M.kp (thn (ha pos pins s σ H _ I h) fun us s1 hq9 => ?_) he hpl
  obtain ⟨vs, H1, I1, r, q⟩ := hq9
  refine ⟨I1.kIn, ?_⟩
  exact run_make M F hr hb hd hx I1 r q
end

/-! ### keywords -/
section
variable {X : Cx} {CX : CXT} {k : Nat} {f C : Addr} {fd : FuncData} {ps ks : List Str} {sp : Sp} {E : XK} {x m : Str} {p pos apos kpos : Pos} {e o : Expr} {es : List Expr} {kws : List Keyword} {te ta : TE} {t tk : TA} {nm : Option Str}

variable {g : List Value → List Value → List Value} {gV : List V → List V → List V}
end

/-! ### a def's body keeps its promise -/
/-- names: the parameters first -/
structure FnScope (N P : List Str) (sc : Scope) : Prop where
  kind : sc.kind = .function
  co : sc.isCoroutine = false
  gen : sc.isGenerator = false
  nd : N.Nodup
  pre : N.take P.length = P
  par : ∀ x ∈ P, sc.names.lookup x = some .local ∨ sc.names.lookup x = some .cell
  nofree : ∀ y ∈ sc.names, y.2 ≠ .free
def scOk (N P : List Str) (sc : Scope) : Bool := decide (sc.kind = .function) && (!sc.isCoroutine) && (!sc.isGenerator) && decide N.Nodup && decide (N.take P.length = P) && P.all (fun x => decide (sc.names.lookup x = some .local) || decide (sc.names.lookup x = some .cell)) && sc.names.all fun y => decide (y.2 ≠ .free)
theorem FnScope.of {N P : List Str} {sc : Scope} (h : scOk N P sc = true) : FnScope N P sc := by
  unfold scOk at h
  simp only [Bool.and_eq_true, List.all_eq_true, Bool.or_eq_true, decide_eq_true_eq, Bool.not_eq_true'] at h
  obtain ⟨⟨⟨⟨⟨⟨h1, h2⟩, h3⟩, h4⟩, h5⟩, h6⟩, h7⟩ := h
  exact ⟨h1, h2, h3, h4, h5, h6, h7⟩

theorem bindL_out {kindOf : Str → Option NameKind} {x : Str} : ∀ {binds : List (Str × Value)} {m : Str → Option Value}, (∀ v, (x, v) ∉ binds) → bindL kindOf binds m x = m x
  | [], _, _ => rfl
  | (n, v) :: r, m, h => by
    unfold bindL
    rw [bindL_out fun w hw => h w (List.mem_cons_of_mem _ hw)]
    split
    · have : x ≠ n := by rintro rfl; exact h v List.mem_cons_self
      simp [this]
    · rfl
theorem bindC_out {kindOf : Str → Option NameKind} {x : Str} : ∀ {binds : List (Str × Value)} {m : Str → Option Value}, (∀ v, (x, v) ∉ binds) → bindC kindOf binds m x = m x
  | [], _, _ => rfl
  | (n, v) :: r, m, h => by
    unfold bindC
    rw [bindC_out fun w hw => h w (List.mem_cons_of_mem _ hw)]
    split
    · rfl
    · have : x ≠ n := by rintro rfl; exact h v List.mem_cons_self
      simp [this]
theorem bindL_get {kindOf : Str → Option NameKind} {x : Str} {v : Value} : ∀ {P : List Str} {vs : List Value} {i : Nat} {m : Str → Option Value}, P.Nodup → P[i]? = some x → vs[i]? = some v → kindOf x = some .local →
    bindL kindOf (P.zip vs) m x = some v
  | [], _, _, _, _, h, _, _ => by simp at h
  | _ :: _, [], _, _, _, _, h, _ => by simp at h
  | p :: P, w :: vs, 0, m, nd, h1, h2, hk => by
    simp at h1 h2; subst h1; subst h2
    show bindL kindOf ((p, w) :: P.zip vs) m p = _
    unfold bindL
    rw [bindL_out fun v hv => (List.nodup_cons.mp nd).1 (List.of_mem_zip hv).1, if_pos hk]
    simp
  | p :: P, w :: vs, i + 1, m, nd, h1, h2, hk => by
    show bindL kindOf ((p, w) :: P.zip vs) m x = _
    unfold bindL
    exact bindL_get (i := i) (List.nodup_cons.mp nd).2 (by simpa using h1) (by simpa using h2) hk
theorem bindC_get {kindOf : Str → Option NameKind} {x : Str} {v : Value} : ∀ {P : List Str} {vs : List Value} {i : Nat} {m : Str → Option Value}, P.Nodup → P[i]? = some x → vs[i]? = some v → kindOf x ≠ some .local →
    bindC kindOf (P.zip vs) m x = some v
  | [], _, _, _, _, h, _, _ => by simp at h
  | _ :: _, [], _, _, _, _, h, _ => by simp at h
  | p :: P, w :: vs, 0, m, nd, h1, h2, hk => by
    simp at h1 h2; subst h1; subst h2
    show bindC kindOf ((p, w) :: P.zip vs) m p = _
    unfold bindC
    rw [bindC_out fun v hv => (List.nodup_cons.mp nd).1 (List.of_mem_zip hv).1, if_neg hk]
    simp
  | p :: P, w :: vs, i + 1, m, nd, h1, h2, hk => by
    show bindC kindOf ((p, w) :: P.zip vs) m x = _
    unfold bindC
    exact bindC_get (i := i) (List.nodup_cons.mp nd).2 (by simpa using h1) (by simpa using h2) hk

/-- the names' values at the entry -/
def start (N : List Str) (vs : List V) : St := vs.map some ++ List.replicate (N.length - vs.length) none

/-- the context of a def's body, at its entry; an exception leaves the frame, then lies as CX says -/
def cxOf (CX : CXT) (P : Program) (w : World) (K : PySem.W.Frag) (mg : Str → Option Value) (base : Heap) (N : List Str) (qual : Str) (scope : Scope) (f : Addr) (cd : Value) (A : Around) (outer : List Env) (s : Shared) (H : Hp) (E : XK) : Cx where
  prog := P
  w := w
  K := K
  mg := mg
  base := base
  A := A.deeper (envOfC qual scope s.heap.objs.size f cd)
  N := N
  s_0 := s
  H_0 := H
  env := envOfC qual scope s.heap.objs.size f cd
  outer := outer
  stack := envOfC qual scope s.heap.objs.size f cd :: outer
  ex := []
  calm := true
  fn := fun _ => true
  pn := []
  xe := fun e s' => wpAny (model P w) (A.deeper (envOfC qual scope s.heap.objs.size f cd)) (leaving (envOfC qual scope s.heap.objs.size f cd) e) (fun _ s'' => CX outer H s E e s'') (fun e' s'' => CX outer H s E e' s'') s'

theorem cell_has {sc : Scope} {n : Nat} {x : Str} (h : sc.names.lookup x = some .cell) : ∃ c, (cellsFrom n sc.names []).lookup x = some c := by
  have q := PySem.W.cellsFrom_some sc.names n [] (.inl h)
  exact Option.isSome_iff_exists.mp q

theorem inv_start {CX : CXT} {P : Program} {w : World} {K : PySem.W.Frag} {mg : Str → Option Value} {base : Heap} {N ps : List Str} {qual : Str} {scope : Scope} {f : Addr} {cd : Value} {A : Around} {outer : List Env} {s s1 : Shared} {H : Hp} {E : XK} {us : List Value} {vs : List V}
    (S : FnScope N ps scope) (hd : A.handled = none) (e0 : Env0 P w K mg base A outer s H) (hl : vs.length = ps.length) (r : Vals vs us)
    (x : InCallC s s.heap.objs.size (bindL (envOfC qual scope s.heap.objs.size f cd).kindOf (ps.zip us) fun _ => none) (cellsFrom (s.heap.objs.size + 1) scope.names []) (bindC (envOfC qual scope s.heap.objs.size f cd).kindOf (ps.zip us) fun _ => none) s1) :
    Inv (cxOf CX P w K mg base N qual scope f cd A outer s H E) [] (start N vs) H s1 := by
  have hpl : ps.length ≤ N.length := by have := congrArg List.length S.pre; rw [List.length_take] at this; omega
  obtain ⟨h1, tk, rfl, hk⟩ := x.done
  have noA : ∀ b : Addr, b ∉ (cxOf CX P w K mg base N qual scope f cd A outer s H E).ex := fun b z => absurd (show b ∈ ([] : List Addr) from z) (by simp)
  refine ⟨⟨e0.mod, S.kind, rfl, rfl, Nat.le_refl _, fun y z c h1 h2 => ?_, fun y hy => ?_, fun y c _ h => ?_, fun _ => hd, Around.frames_deeper e0.frames, .inr ⟨rfl, rfl⟩, fun b z => absurd z (noA b), e0.bs, e0.bsz, fun b _ _ => noA b, fun b z => absurd z (noA b), e0.funs, e0.frf⟩,
    rfl, e0.bare, Un.kept hk, ⟨_, x.toInCall.ns, fun i y v h1 h2 h3 => ?_⟩, fun y c h => ⟨_, x.cell y c h⟩, e0.hok.fresh (Nat.le_refl _), fun y c h => ?_, fun p hp => absurd (show p ∈ ([] : List (Addr × Obj)) from hp) (by simp), e0.hok.kept hk, ?_⟩
  · exact name_of_addr x.apart (PySem.mem_of_lookup h1) (PySem.mem_of_lookup h2)
  · have hy : scope.names.lookup y = some .cell ∨ scope.names.lookup y = some .free := hy
    rcases hy with hy | hy
    · exact cell_has hy
    · exact absurd rfl (S.nofree _ (PySem.mem_of_lookup hy))
  · exact Nat.le_of_lt (x.above y c (PySem.mem_of_lookup h))
  · have hi : i < vs.length := by
      unfold start at h2
      by_cases hi : i < vs.length
      · exact hi
      · rw [List.getElem?_append_right (by simpa using hi)] at h2
        rw [List.getElem?_replicate] at h2
        split at h2 <;> cases h2
    have ha : vs[i]? = some v := by
      unfold start at h2
      rw [List.getElem?_append_left (by simpa using hi), List.getElem?_map] at h2
      cases e : vs[i]? with
      | none => rw [e] at h2; cases h2
      | some a => rw [e] at h2; cases h2; rfl
    obtain ⟨u, hu, rv⟩ := r.get ha
    have hp : ps[i]? = some y := by
      rw [← S.pre, List.getElem?_take_of_lt (by omega)]; exact h1
    have ndP : ps.Nodup := by rw [← S.pre]; exact S.nd.sublist (List.take_sublist _ _)
    refine ⟨u, rv, ?_⟩
    rcases S.par y (List.mem_of_getElem? hp) with k | k
    · exact .inl ⟨k, bindL_get ndP hp hu k⟩
    · obtain ⟨c, e⟩ := cell_has (n := s.heap.objs.size + 1) k
      refine .inr ⟨.inl k, c, e, ?_⟩
      have q := x.cell y c e
      rw [bindC_get ndP hp hu (by show scope.names.lookup y ≠ _; rw [k]; decide)] at q
      exact q
  · exact e0.hok.fresh (Nat.le_of_lt (x.above y c (PySem.mem_of_lookup h)))
  · unfold start
    show _ = N.length
    rw [List.length_append, List.length_map, List.length_replicate]
    omega

/-- THE RULE: a def (or a method) of the text, by its body. The body's reading t is chosen for each entry; it is run at the parameters' values -/
theorem fn_of {CX : CXT} {P : Program} {w : World} {K : PySem.W.Frag} {mg : Str → Option Value} {base : Heap} {k : Nat} {f : Addr} {name qual : Str} {params : Arguments} {body : List Stmt} {scope : Scope} {dV kV doc pm cdv ct oc : Value} {an od : Option Addr}
    {osl : Array (Option Value)} {N ps : List Str} {sp : Sp} (lk : K.lookup f = some ⟨oc, od, .func (PySem.W.fnOf name qual params body scope dV kV doc pm an cdv ct), osl⟩) (hcd : PySem.W.codeIn K cdv qual = true) (S : FnScope N ps scope)
    (len : ∀ vs H Q E, sp vs H Q E → vs.length = ps.length)
    (hbody : ∀ (A : Around) (outer : List Env) (s : Shared) (H : Hp) (vs : List V) (Q : VK) (E : XK), Room k (A.deeper (envOfC qual scope s.heap.objs.size f cdv)) → sp vs H Q E →
      ∃ t, PSs (cxOf CX P w K mg base N qual scope f cdv A outer s H E) body t ∧ t { nx := fun _ H' => Q .non H', rt := Q } (start N vs) H) :
    FnOk P w K mg base CX (k + 1) f (PySem.W.fnOf name qual params body scope dV kV doc pm an cdv ct) ps sp := by
  refine ⟨len, fun A outer s H args us vs Q E hr e0 hb r hsp => ?_⟩
  have hl := len _ _ _ _ hsp
  have KX : K.In s.heap := e0.mod.kin.keeps fun b o e => (e0.bs b o e).1
  have lim : s.heap.NoLimit := e0.mod.nolimit.keeps fun b o e => (e0.bs b o e).1
  have hkind : ∀ y ∈ ps.zip us, scope.names.lookup y.1 = some .local ∨ (scope.names.lookup y.1 = some .cell ∧ ((cellsFrom (s.heap.objs.size + 1) scope.names []).lookup y.1).isSome = true) := fun ⟨n, v⟩ hy => by
    rcases S.par n (List.of_mem_zip hy).1 with q | q
    · exact .inl q
    · exact .inr ⟨q, PySem.W.cellsFrom_some _ _ _ (.inl q)⟩
  refine codeAny_call_function hr.depth (KX _ _ lk) rfl S.co S.gen rfl (PySem.W.codeRec_of KX hcd) (hb _ _ _ _ ?_)
  refine wpAny_newFunctionEnv_cells S.kind hkind fun env he s1 x => ?_
  subst he
  refine ⟨lim.keeps x.toInCall.keep, codeAny_func ?_⟩
  obtain ⟨t, ht, hq⟩ := hbody A outer s H vs Q E (hr.deeper _) hsp
  have I : Inv (cxOf CX P w K mg base N qual scope f cdv A outer s H E) [] (start N vs) H s1 := inv_start S hr.hd e0 hl r x
  refine wpAny_mono (ht [] s1 (start N vs) H _ I hq) (fun fl s' hs => ?_) fun e s' hs => hs
  have fin : ∀ {σ' : St} {H' : Hp} {v : V} {u : Value}, Inv (cxOf CX P w K mg base N qual scope f cdv A outer s H E) [] σ' H' s' → RelV v u → Q v H' → CE outer P w H s Q u s' :=
    fun {σ' H' v u} J rv q => ⟨v, H', J.os, J.bare, J.base, J.hok, rv, q⟩
  cases fl with
  | ret u =>
    obtain ⟨v, σ', H', J, rv, q⟩ := hs
    exact fin J rv q
  | next =>
    obtain ⟨σ', H', J, q⟩ := hs
    exact fin (v := V.non) (u := Value.none) J rfl q
  | brk =>
    obtain ⟨_, _, _, q⟩ := hs
    exact False.elim q
  | cont =>
    obtain ⟨_, _, _, q⟩ := hs
    exact False.elim q
end L2

namespace L2
open PySem PySem.Spec PyProof.Rows
section
variable {X : Cx} {x : Str} {p pos : Pos} {e : Expr} {es : List Expr} {t : TA} {id T : String} {r : List V → Hp → VK → Prop}

def tCB (r : List V → Hp → VK → Prop) (t : TA) : TE := fun σ H Q => t σ H fun vs H1 => r vs H1 Q
/-- f(e, ..), f a built-in function -/
theorem pe_callB (hc : CallR X (.builtin id) r) (hg : Gl X x) (hm : X.mg x = none) (hv : bootBuiltins x = some (.builtin id)) (ha : PA X (e :: es) t) (hn : x ≠ "__name__" := by decide) (hdb : (x == ("__debug__" : Str)) = false := by decide)
    (he : starEach (e :: es) X.env = (false, eval e X.env) :: starEach es X.env := by rfl) (hpl : (backTo pos (starEach es X.env)).any (·.1) = false := by rfl) : PE X (.Call (.Name x p) (e :: es) [] pos) (tCB r t) := by
  intro pins s σ H Q I h
  refine wpAny_Call_Name_kw (ld_blt I hg hm hv ?_ hn hdb)
  exact PyProof.Rows.callWith_builtin1 (thn (ha pos pins s σ H _ I h) fun us s1 ⟨vs, H1, I1, r1, q1⟩ => hc pins s1 σ H1 vs us Q I1 r1 q1) he hpl
/-- T(e, ..), T a built-in type -/
theorem pe_callTy (hc : CallR X (.type T) r) (hg : Gl X x) (hm : X.mg x = none) (hv : bootBuiltins x = some (.type T)) (ha : PA X (e :: es) t) (hn : x ≠ "__name__" := by decide) (hdb : (x == ("__debug__" : Str)) = false := by decide)
    (he : starEach (e :: es) X.env = (false, eval e X.env) :: starEach es X.env := by rfl) (hpl : (backTo pos (starEach es X.env)).any (·.1) = false := by rfl) : PE X (.Call (.Name x p) (e :: es) [] pos) (tCB r t) := by
  intro pins s σ H Q I h
  refine wpAny_Call_Name_kw (ld_blt I hg hm hv ?_ hn hdb)
  exact PyProof.Rows.callWith_type1 (thn (ha pos pins s σ H _ I h) fun us s1 ⟨vs, H1, I1, r1, q1⟩ => hc pins s1 σ H1 vs us Q I1 r1 q1) he hpl
end
end L2

namespace HT
open PySem PyProof.Rows



section
open PySem.SeqAt
open PySem.AutoSeq1 (wpAny_loadPart')
open PySem.MeetsSeq PySem.MeetsSeq2 PySem.MeetsSeq3

end

section
variable {prog : Program} {w : World} {A : Around} {E : Value → Shared → Prop} {s : Shared}



/-! ### t[a:b], not the whole -/
/-- a slice's bound as a place among n (d where it is left out) -/
def sIx (n d : Nat) : Option Int → Nat
  | none => d
  | some v => if v < 0 then (v + (n : Int)).toNat else min v.toNat n
theorem sIx_nat (n d k : Nat) : sIx n d (some (k : Int)) = min k n := by
  show (if (k : Int) < 0 then ((k : Int) + (n : Int)).toNat else min (k : Int).toNat n) = min k n
  rw [if_neg (by omega), Int.toNat_natCast]

end
end HT

namespace L2
open PySem PySem.Spec PyProof.Rows

/-! ### the parts of a slice -/
abbrev TO := St → Hp → (Option Int → Hp → Prop) → Prop
/-- a slice's part (left out, or an int) -/
def PO (X : Cx) (e : Option Expr) (t : TO) : Prop :=
  ∀ (pins : List (Addr × Obj)) (s : Shared) (σ : St) (H : Hp) (Q : Option Int → Hp → Prop), Inv X pins σ H s → t σ H Q →
    wpAny (model X.prog X.w) X.A (evalPart e X.env) (fun u s' => ∃ o H', Inv X pins σ H' s' ∧ IsPart u o ∧ Q o H') X.xe s
def tPart (t : TE) : TO := fun σ H Q => t σ H fun x H1 => ∃ i, x = .int i ∧ Q (some i) H1


section
variable {X : Cx} {e : Expr} {te : TE} {lo hi : Option Expr} {tl th : TO} {pos p2 : Pos}

theorem po_some (h : PE X e te) : PO X (some e) (tPart te) := by
  intro pins s σ H Q I hw
  rw [evalPart_some]
  refine thn (h pins s σ H _ I hw) fun u s1 hq9 => ?_
  obtain ⟨x, H1, I1, r1, q1⟩ := hq9
  obtain ⟨i, rfl, q⟩ := q1
  obtain ⟨t, rfl⟩ := r1
  exact ⟨some i, H1, I1, .int i t, q⟩

/-- what a slice of a value is, by values: the slice object stands at sl -/
def SlR (X : Cx) (r : V → Option Int → Option Int → Hp → VK → Prop) : Prop :=
  ∀ (pins : List (Addr × Obj)) (s : Shared) (σ : St) (H : Hp) (x : V) (v vl vu : Value) (lo hi : Option Int) (sl : Addr) (Q : VK), Inv X pins σ H s → RelV x v → s.heap.IsSliceOf sl vl vu .none → IsPart vl lo → IsPart vu hi → r x lo hi H Q →
    ∃ T id, typeLookup (.type T) "__getitem__" = pure (some (.builtin id)) ∧ s.TypeIs v T ∧ wpAny (model X.prog X.w) X.A (getItem v (.ref sl)) (EP X pins σ Q) X.xe s
def tSl (r : V → Option Int → Option Int → Hp → VK → Prop) (te : TE) (tl th : TO) : TE := fun σ H Q => te σ H fun x H1 => tl σ H1 fun l H2 => th σ H2 fun u H3 => r x l u H3 Q
/-- a[lo:hi], any a -/
theorem pe_slice {r : V → Option Int → Option Int → Hp → VK → Prop} (hr : SlR X r) (he : PE X e te) (hl : PO X lo tl) (hu : PO X hi th) : PE X (.Subscript e (.Slice lo hi none p2) pos) (tSl r te tl th) := by
  intro pins s σ H Q I h
  refine Subscript_ (thn (he pins s σ H _ I h) fun v s1 hq9 => ?_)
  obtain ⟨x, H1, I1, r1, q1⟩ := hq9
  refine wpAny_Slice (thn (hl pins s1 σ H1 _ I1 q1) fun vl s2 ⟨l, H2, I2, pl, q2⟩ => thn (hu pins s2 σ H2 _ I2 q2) fun vu s3 hq9 => ?_)
  obtain ⟨u, H3, I3, pu, q3⟩ := hq9
  rw [evalPart_none]
  refine wpAny_pure ?_
  have I4 : Inv X pins σ H3 { s3 with heap := s3.heap.push { cls := .type "slice", data := .fields #[vl, vu, .none] } } := I3.kept (t' := s3.toks) fun b ob q => Heap.get?_push_of_some _ q
  obtain ⟨T, id, hT, ht, hg⟩ := hr pins { s3 with heap := s3.heap.push { cls := .type "slice", data := .fields #[vl, vu, .none] } } σ H3 x v vl vu l u s3.heap.objs.size Q I4 r1 (Heap.IsSliceOf.new ..) pl pu q3
  show wpAny (model X.prog X.w) X.A (subscriptTail e (.Slice lo hi none p2) v (.ref s3.heap.objs.size)) (EP X pins σ Q) X.xe { s3 with heap := s3.heap.push { cls := .type "slice", data := .fields #[vl, vu, .none] } }
  exact tail_any (ops := [.ref s3.heap.objs.size, v]) ht hT hg (by with_unfolding_all rfl)

/-- the items of xs[lo:hi] -/
def cutV (xs : List V) (lo hi : Option Int) : List V := (xs.drop (HT.sIx xs.length 0 lo)).take (HT.sIx xs.length xs.length hi - HT.sIx xs.length 0 lo)
theorem cutV_length (xs : List V) (lo hi : Option Int) : (cutV xs lo hi).length ≤ xs.length := by
  unfold cutV
  rw [List.length_take, List.length_drop]
  omega

/-! ### t < u, t + u -/
end
end L2

namespace L2
open PySem PySem.Spec PyProof.Rows

/-! ### places -/
/-- the place that an index of any sign means -/
def ixN (n : Nat) (i : Int) : Option Nat := if 0 ≤ i then (if i < n then some i.toNat else none) else if -(n : Int) ≤ i then some (i + n).toNat else none
def atI {α : Type} (xs : List α) (i : Int) : Option α := (ixN xs.length i).bind fun j => xs[j]?
theorem ixN_seq {n : Nat} {i : Int} {j : Nat} (h : ixN n i = some j) : seqIndex? i n = some j ∧ j < n ∧ -(n : Int) ≤ i ∧ i < n := by
  unfold ixN at h
  by_cases h0 : 0 ≤ i
  · rw [if_pos h0] at h
    by_cases h1 : i < n
    · rw [if_pos h1] at h
      have e : i.toNat = j := Option.some.inj h
      exact ⟨by rw [seqIndex_of h0 h1, e], by omega, by omega, h1⟩
    · rw [if_neg h1] at h; cases h
  · rw [if_neg h0] at h
    by_cases h1 : -(n : Int) ≤ i
    · rw [if_pos h1] at h
      have e : (i + n).toNat = j := Option.some.inj h
      exact ⟨by rw [seqIndex_neg (by omega) h1, e], by omega, h1, by omega⟩
    · rw [if_neg h1] at h; cases h
theorem atI_get {α : Type} {xs : List α} {i : Int} {v : α} (h : atI xs i = some v) : ∃ j, seqIndex? i xs.length = some j ∧ xs[j]? = some v ∧ j < xs.length ∧ -(xs.length : Int) ≤ i ∧ i < xs.length := by
  unfold atI at h
  cases e : ixN xs.length i with
  | none => rw [e] at h; cases h
  | some j =>
    rw [e] at h
    obtain ⟨h1, h2, h3, h4⟩ := ixN_seq e
    exact ⟨j, h1, h, h2, h3, h4⟩
theorem atI_nat {α : Type} {xs : List α} {j : Nat} {v : α} (h : xs[j]? = some v) : atI xs (j : Int) = some v := by
  have hj : j < xs.length := (List.getElem?_eq_some_iff.mp h).1
  have e : ixN xs.length (j : Int) = some j := by
    unfold ixN
    rw [if_pos (by omega), if_pos (by omega)]; simp
  unfold atI; rw [e]; exact h

/-! ### what may be subscripted -/
/-- what stands as an index of a plain subscript -/
def PlainIx (b : Expr) : Prop := ∀ o i, subscripted b false o i = operate [o, i] (getItem o i)
/-- a subscript by values -/
def IxR (X : Cx) (r : R2) : Prop :=
  ∀ (value slice : Expr) (pins : List (Addr × Obj)) (s : Shared) (σ : St) (H : Hp) (x y : V) (v u : Value) (Q : VK), Inv X pins σ H s → RelV x v → RelV y u → r x y H Q →
    subscripted slice false v u = operate [v, u] (getItem v u) → wpAny (model X.prog X.w) X.A (subscriptTail value slice v u) (EP X pins σ Q) X.xe s
/-- a call of a builtin's method by values: the receiver, the arguments -/
def MtR (X : Cx) (id : String) (r : V → List V → Hp → VK → Prop) : Prop :=
  ∀ (pins : List (Addr × Obj)) (s : Shared) (σ : St) (H : Hp) (x : V) (xs : List V) (v : Value) (us : List Value) (Q : VK), Inv X pins σ H s → RelV x v → Vals xs us → r x xs H Q →
    wpAny (model X.prog X.w) X.A (call (.builtin id) (v :: us)) (EP X pins σ Q) X.xe s
section
variable {X : Cx} {a b : Expr} {ta tb : TE} {pos : Pos}
/-- a[b] -/
theorem pe_ix {r : R2} (hr : IxR X r) (ha : PE X a ta) (hb : PE X b tb) (hs : PlainIx b) : PE X (.Subscript a b pos) (tOp r ta tb) := by
  intro pins s σ H Q I h
  exact Subscript_ (binT ha hb I h fun v u s2 x y H2 I2 rx ry q => hr a b pins s2 σ H2 x y v u Q I2 rx ry q (hs _ _))

inductive IxLR (K : PySem.W.Frag) (x y : V) (H : Hp) (Q : VK) : Prop
  | mk (p : Addr) (xs : List V) (i : Int) (v : V) (hx : x = .ref p) (hy : y = .int i) (h : SqL K H p xs) (e : atI xs i = some v) (q : Q v H) : IxLR K x y H Q
def rIxL (K : PySem.W.Frag) : R2 := IxLR K
def rIxT (K : PySem.W.Frag) : R2 := fun x y H Q => ∃ p xs i v, x = .ref p ∧ y = .int i ∧ SqT K H p xs ∧ atI xs i = some v ∧ Q v H
theorem ix_list : IxR X (rIxL X.K) := by
  intro value slice pins s σ H x y v u Q I rx ry h hs
  obtain ⟨p, xs, i, z, rfl, rfl, hq, he, q⟩ := h
  cases rx
  obtain ⟨t, rfl⟩ := ry
  obtain ⟨its, r, pl, hz⟩ := I.list hq
  obtain ⟨j, h1, h2, h3, h4, h5⟩ := atI_get he
  obtain ⟨w, ew, rw'⟩ := r.get h2
  have hl := r.length
  have hn := line63
  have fin : EP X pins σ Q w s := ⟨z, H, I, rw', q⟩
  by_cases h0 : 0 ≤ i
  · have hj : i.toNat = j := by
      rw [seqIndex_of h0 h5] at h1
      exact Option.some.inj h1
    exact item_listR pl.isList h0 (by omega) (by rw [hj]; simpa using ew) fin hs
  · have hj : (i + (its.toArray.size : Int)).toNat = j := by
      rw [seqIndex_neg (by omega) h4] at h1
      rw [List.size_toArray, ← hl]
      exact Option.some.inj h1
    exact subscriptTail_builtinR (x := w) pl.isList.typeIs slot_list_getitem.lookup
      (wpAny_getItem_list_neg (Q := fun r s' => r = w ∧ EP X pins σ Q r s') pl.isList (by omega) (by rw [List.size_toArray] <;> omega) (by omega) (by rw [hj]; simpa using ew) ⟨rfl, fin⟩) hs
theorem ix_tup : IxR X (rIxT X.K) := by
  intro value slice pins s σ H x y v u Q I rx ry h hs
  obtain ⟨p, xs, i, z, rfl, rfl, hq, he, q⟩ := h
  cases rx
  obtain ⟨t, rfl⟩ := ry
  obtain ⟨its, r, pl, hz⟩ := I.tuple hq
  obtain ⟨j, h1, h2, h3, h4, h5⟩ := atI_get he
  obtain ⟨w, ew, rw'⟩ := r.get h2
  have hl := r.length
  have hn := line63
  have fin : EP X pins σ Q w s := ⟨z, H, I, rw', q⟩
  exact subscriptTail_builtinR (x := w) pl.typeIs slot_tuple_getitem.lookup
    (getItem_tuple (j := j) (Q := fun r s' => r = w ∧ EP X pins σ Q r s') pl (by omega) (by omega) (by rw [List.size_toArray, ← hl]; exact h1) (by simpa using ew) ⟨rfl, fin⟩) hs

/-! ### xs[i] = v, any sign -/

/-! ### slices -/
theorem slice_bounds (lo hi : Option Int) (n : Nat) : (sliceBounds lo hi none n).1 = ((HT.sIx n 0 lo : Nat) : Int) ∧ (sliceBounds lo hi none n).2.1 = ((HT.sIx n n hi : Nat) : Int) ∧ (sliceBounds lo hi none n).2.2 = 1 := by
  refine ⟨?_, ?_, rfl⟩
  · cases lo with
    | none => simp [sliceBounds, HT.sIx]
    | some i =>
      simp only [sliceBounds, HT.sIx, Option.getD_none, show (1 : Int) > 0 by decide, if_true]
      by_cases h : i < 0
      · simp only [h, if_true] <;> omega
      · simp only [h, if_false] <;> omega
  · cases hi with
    | none => simp [sliceBounds, HT.sIx]
    | some i =>
      simp only [sliceBounds, HT.sIx, Option.getD_none, show (1 : Int) > 0 by decide, if_true]
      by_cases h : i < 0
      · simp only [h, if_true] <;> omega
      · simp only [h, if_false] <;> omega
theorem slicePick_cut (its : List Value) (lo hi : Option Int) : slicePick its.toArray lo hi none = ((its.drop (HT.sIx its.length 0 lo)).take (HT.sIx its.length its.length hi - HT.sIx its.length 0 lo)).toArray := by
  obtain ⟨h1, h2, h3⟩ := slice_bounds lo hi its.toArray.size
  unfold slicePick
  rw [h1, h2, h3]
  simp only [sliceRange_one, pick_run, List.size_toArray] <;> rfl
/-- xs[lo:hi] of a list: a new list -/
def rSlL (K : PySem.W.Frag) : V → Option Int → Option Int → Hp → VK → Prop := fun x lo hi H Q => ∃ a xs, x = .ref a ∧ SqL K H a xs ∧ ∀ p, H p = none → Q (.ref p) (upd H p (.lst (cutV xs lo hi)))
theorem sl_list : SlR X (rSlL X.K) := by
  intro pins s σ H x v vl vu lo hi sl Q I rx hs pl pu h
  obtain ⟨a, xs, rfl, hx, q⟩ := h
  cases rx
  obtain ⟨its, r, ht, hz⟩ := I.list hx
  have hlen := r.length
  refine ⟨"list", _, slot_list_getitem.lookup, ht.isList.typeIs, ?_⟩
  refine wpAny_getItem_list_slice ht.isList hs pl pu .none (by simp) ?_ (by rw [List.size_toArray] <;> omega)
  rw [slicePick_cut, ← hlen]
  refine ⟨.ref s.heap.objs.size, _, I.laid (t' := s.toks) (o := .lst (cutV xs lo hi)) (fun b ob q => Heap.get?_push_of_some _ q) (Nat.le_refl _) ?_, rfl, q _ (I.hok.fresh (Nat.le_refl _))⟩
  exact ⟨Nat.le_trans (cutV_length xs lo hi) hz, _, 0, (r.drop (HT.sIx xs.length 0 lo)).take (HT.sIx xs.length xs.length hi - HT.sIx xs.length 0 lo), Heap.get?_push_size _ rfl⟩

/-! ### in, not in: flat items -/
def flatV : V → Bool
  | .non => true
  | .bl _ => true
  | .int _ => true
  | .str _ => true
  | _ => false
/-- == of flat values -/
def eqV : V → V → Bool
  | .non, .non => true
  | .bl a, .bl b => a == b
  | .bl a, .int b => (if a then 1 else 0) == b
  | .int a, .bl b => a == (if b then 1 else 0)
  | .int a, .int b => a == b
  | .str a, .str b => a == b
  | _, _ => false
theorem eqAt_V {A : Around} {s : Shared} {y x : V} {u v : Value} (ry : RelV y u) (rx : RelV x v) (fy : flatV y = true) (fx : flatV x = true) : SeqAt.EqAt A s u v (eqV y x) := by
  cases y with
  | non =>
    cases ry
    cases x with
    | non => cases rx; exact SeqAt.EqAt.same _
    | bl b => cases rx; exact SeqAt.EqAt.none_bool b
    | int b => obtain ⟨t, rfl⟩ := rx; exact SeqAt.EqAt.none_int b t
    | str b => obtain ⟨t, rfl⟩ := rx; exact SeqAt.EqAt.none_str b t
    | _ => exact absurd (show false = true from fx) Bool.false_ne_true
  | bl a =>
    cases ry
    cases x with
    | non => cases rx; exact SeqAt.EqAt.bool_none a
    | bl b => cases rx; exact SeqAt.EqAt.bool_bool a b
    | int b => obtain ⟨t, rfl⟩ := rx; exact SeqAt.EqAt.bool_int a b t
    | str b => obtain ⟨t, rfl⟩ := rx; exact SeqAt.EqAt.bool_str a b t
    | _ => exact absurd (show false = true from fx) Bool.false_ne_true
  | int a =>
    obtain ⟨t', rfl⟩ := ry
    cases x with
    | non => cases rx; exact SeqAt.EqAt.int_none a t'
    | bl b => cases rx; exact SeqAt.EqAt.int_bool a t' b
    | int b => obtain ⟨t, rfl⟩ := rx; exact SeqAt.EqAt.int_int a t' b t
    | str b => obtain ⟨t, rfl⟩ := rx; exact SeqAt.EqAt.int_str a t' b t
    | _ => exact absurd (show false = true from fx) Bool.false_ne_true
  | str a =>
    obtain ⟨t', rfl⟩ := ry
    cases x with
    | non => cases rx; exact SeqAt.EqAt.str_none a t'
    | bl b => cases rx; exact SeqAt.EqAt.str_bool a t' b
    | int b => obtain ⟨t, rfl⟩ := rx; exact SeqAt.EqAt.str_int a t' b t
    | str b => obtain ⟨t, rfl⟩ := rx; exact SeqAt.EqAt.str_str a t' b t
    | _ => exact absurd (show false = true from fx) Bool.false_ne_true
  | _ => exact absurd (show false = true from fy) Bool.false_ne_true
/-- the items' answers, read off the values (a value's own answer does not lean on its token) -/
def eqU (x : V) (u : Value) : Bool := match u with
  | .none => eqV .non x
  | .bool b => eqV (.bl b) x
  | .int i _ => eqV (.int i) x
  | .str z _ => eqV (.str z) x
  | _ => false
theorem eqU_of {x y : V} {u : Value} (r : RelV y u) (f : flatV y = true) : eqU x u = eqV y x := by
  cases y with
  | non => cases r; rfl
  | bl b => cases r; rfl
  | int i => obtain ⟨t, rfl⟩ := r; rfl
  | str z => obtain ⟨t, rfl⟩ := r; rfl
  | _ => exact absurd (show false = true from f) Bool.false_ne_true
theorem any_eqU {x : V} {xs : List V} {us : List Value} (h : Vals xs us) : xs.all flatV = true → us.any (eqU x) = xs.any fun y => eqV y x := by
  induction h with
  | nil => intro _; rfl
  | cons r t ih =>
    intro f
    rw [List.all_cons, Bool.and_eq_true] at f
    rw [List.any_cons, List.any_cons, eqU_of r f.1, ih f.2]
theorem mem_eqAt {A : Around} {s : Shared} {x : V} {v : Value} (rx : RelV x v) (fx : flatV x = true) {xs : List V} {us : List Value} (h : Vals xs us) : xs.all flatV = true → ∀ u ∈ us, SeqAt.EqAt A s u v (eqU x u) := by
  induction h with
  | nil => intro _ u hu; cases hu
  | cons r t ih =>
    intro f u' hu
    rw [List.all_cons, Bool.and_eq_true] at f
    rcases List.mem_cons.mp hu with rfl | hu
    · rw [eqU_of r f.1]; exact eqAt_V r rx f.1 fx
    · exact ih f.2 u' hu
def inV (x : V) (xs : List V) : Bool := xs.any fun y => eqV y x
/-- x in a list or tuple of flat items -/
def rIn (K : PySem.W.Frag) (neg : Bool) : R2 := fun x y H Q => ∃ p xs, y = .ref p ∧ (SqL K H p xs ∨ SqT K H p xs) ∧ flatV x = true ∧ xs.all flatV = true ∧ Q (.bl (if neg then !inV x xs else inV x xs)) H
theorem op_in_seq : OpR X (compareOp .In) (rIn X.K false) := by
  intro pins s σ H x y v u Q I rx ry h
  obtain ⟨p, xs, rfl, hq, fx, fs, q⟩ := h
  cases ry
  rcases hq with hq | hq
  · obtain ⟨its, r, pl, hz⟩ := I.list hq
    refine SeqAt.in_listAt (eqU x) pl.isList (fun w hw => mem_eqAt rx fx r fs w (by simpa using hw)) ⟨.bl _, H, I, rfl, ?_⟩
    rw [show its.toArray.any (eqU x) = its.any (eqU x) by simp, any_eqU r fs]
    exact q
  · obtain ⟨its, r, pl, hz⟩ := I.tuple hq
    refine SeqAt.in_tupleAt (eqU x) pl (fun w hw => mem_eqAt rx fx r fs w (by simpa using hw)) ⟨.bl _, H, I, rfl, ?_⟩
    rw [show its.toArray.any (eqU x) = its.any (eqU x) by simp, any_eqU r fs]
    exact q

/-! ### len, list(x), tuple(x) of any list or tuple that is read -/
inductive LenR (K : PySem.W.Frag) (xs : List V) (H : Hp) (Q : VK) : Prop
  | mk (p : Addr) (ys : List V) (e : xs = [.ref p]) (h : SqL K H p ys ∨ SqT K H p ys) (q : Q (.int ys.length) H) : LenR K xs H Q
theorem call_len_seq : CallR X (.builtin "len") (LenR X.K) := by
  intro pins s σ H xs us Q I r h
  obtain ⟨p, ys, rfl, hq, q⟩ := h
  obtain ⟨u, rfl, rx⟩ := vals1 r
  cases rx
  have hn := line63
  rcases hq with hq | hq
  · obtain ⟨its, r', pl, hz⟩ := I.list hq
    have hlen := r'.length
    exact Calls.call_len_list pl.isList (by simp only [List.size_toArray] <;> omega) ⟨.int ys.length, H, I.tok _, ⟨s.toks + 1, by rw [List.size_toArray, hlen]⟩, q⟩
  · obtain ⟨its, r', pl, hz⟩ := I.tuple hq
    have hlen := r'.length
    exact len_tuple pl (by simp only [List.size_toArray] <;> omega) ⟨.int ys.length, H, I.tok _, ⟨s.toks + 1, by rw [List.size_toArray, hlen]⟩, q⟩

/-! ### the call of a builtin's method: o.m(..) -/
/-- the value is of that builtin type -/
def tyV (K : PySem.W.Frag) (T : String) (x : V) (H : Hp) : Prop := match x with
  | .str _ => T = "str"
  | .int _ => T = "int"
  | .ref p => (T = "list" ∧ ∃ xs, SqL K H p xs) ∨ (T = "tuple" ∧ ∃ o, K.lookup p = some o ∧ o.cls = .type "tuple" ∧ o.dict = none) ∨
      (T = "dict" ∧ ((∃ kvs, H p = some (.dK kvs)) ∨ ∃ kvs, H p = some (.dT kvs))) ∨ (T = "set" ∧ ∃ S n, H p = some (.set S n))
  | _ => False
theorem tyV_is {pins : List (Addr × Obj)} {σ : St} {H : Hp} {s : Shared} {T : String} {x : V} {v : Value} (I : Inv X pins σ H s) (r : RelV x v) (ty : tyV X.K T x H) :
    s.TypeIs v T ∧ ∀ a, v = .ref a → ∃ ob, s.heap.get? a = some ob ∧ ob.dict = none := by
  cases x with
  | str z =>
    obtain ⟨t, rfl⟩ := r
    cases (show T = "str" from ty)
    exact ⟨typeIs_str s z t, fun _ e => nomatch e⟩
  | int i =>
    obtain ⟨t, rfl⟩ := r
    cases (show T = "int" from ty)
    exact ⟨typeIs_int s i t, fun _ e => nomatch e⟩
  | ref p =>
    cases r
    rcases ty with ⟨rfl, xs, hq⟩ | ⟨rfl, o, hk, hc, hd⟩ | ⟨rfl, hk⟩ | ⟨rfl, S, n, hk⟩
    · obtain ⟨its, _, pl, _⟩ := I.list hq
      refine ⟨pl.isList.typeIs, fun a e => ?_⟩
      cases e
      obtain ⟨o, n, e, c, hd, _⟩ := pl
      exact ⟨o, e, hd⟩
    · refine ⟨⟨o, I.kIn p o hk, hc⟩, fun a e => ?_⟩
      cases e
      exact ⟨o, I.kIn _ o hk, hd⟩
    · have z : ∃ o, s.heap.get? p = some o ∧ o.ExactDict := by
        rcases hk with ⟨kvs, hk⟩ | ⟨kvs, hk⟩
        · obtain ⟨_, _, _, _, o, _, _, e, ex, _⟩ := I.hok p _ hk
          exact ⟨o, e, ex⟩
        · obtain ⟨_, _, _, _, o, _, _, e, ex, _⟩ := I.hok p _ hk
          exact ⟨o, e, ex⟩
      obtain ⟨o, e, ex⟩ := z
      refine ⟨⟨o, e, ex.1⟩, fun a e2 => ?_⟩
      cases e2
      exact ⟨o, e, ex.2.1⟩
    · obtain ⟨o, _, _, _, e, ex, _⟩ := I.hok p _ hk
      refine ⟨⟨o, e, ex.1⟩, fun a e2 => ?_⟩
      cases e2
      exact ⟨o, e, ex.2.1⟩
  | _ => exact False.elim ty
def tBM (K : PySem.W.Frag) (T : String) (r : V → List V → Hp → VK → Prop) (to : TE) (t : TA) : TE := fun σ H Q => to σ H fun x H1 => tyV K T x H1 ∧ t σ H1 fun xs H2 => r x xs H2 Q
variable {o e : Expr} {es : List Expr} {to : TE} {t : TA} {name : Str} {apos cpos : Pos} {T id : String} {r : V → List V → Hp → VK → Prop}
theorem pe_bm (pa : PlainAttrs T) (slot : Slot T name id) (hty : typeOf (.builtin id) = pure (.type "method_descriptor")) (hm : MtR X id r) (ho : PE X o to) (ha : PA X (e :: es) t)
    (hbase : attributeBase o name X.env (eval o X.env) = eval o X.env := by rfl)
    (hfew : ((backTo cpos (starEach (e :: es) X.env)).all (fun x => !x.1) && (backToKw cpos (keywordEach [] X.env)).all (fun x => x.1.isSome)
      && decide ((e :: es).length + ([] : List Keyword).length + (if ([] : List Keyword).isEmpty then 0 else 1) < 30)) = true := by rfl)
    (hline : (apos.endLine == cpos.line) = true := by rfl) (hs : starEach (e :: es) X.env = (false, eval e X.env) :: starEach es X.env := by rfl) (hplain : (backTo cpos (starEach es X.env)).any (·.1) = false := by rfl) :
    PE X (.Call (.Attribute o name apos) (e :: es) [] cpos) (tBM X.K T r to t) := by
  intro pins s σ H Q I h
  refine wpAny_Call_method_late hbase hfew hline rfl (thn (ho pins s σ H _ I h) fun v s1 hq9 => ?_)
  obtain ⟨x, H1, I1, r1, ty, q1⟩ := hq9
  obtain ⟨h1, h2⟩ := tyV_is I1 r1 ty
  refine ⟨T, id, pa, slot, hty, h1, h2, ?_⟩
  have hA := ha cpos pins s1 σ H1 _ I1 q1
  rw [hs] at hA ⊢
  refine Calls.callWith_builtin (by show (false || (backTo cpos (starEach es X.env)).any (·.1)) = false; rw [hplain] <;> rfl) (Calls.evalArgs_plain ?_)
  exact thn hA fun us s2 ⟨vs, H2, I2, r2, q2⟩ => hm pins s2 σ H2 x vs v us Q I2 r1 r2 q2
/- xs.append(e), list.index on a module's tuple .. are MtR facts of 06m -/
end
end L2

namespace L2
open PySem PySem.Spec PyProof.Rows

def MtM (X : Cx) (id : String) (r : V → List V → Hp → VK → Prop) : Prop :=
  ∀ (pins : List (Addr × Obj)) (s : Shared) (σ : St) (H : Hp) (x : V) (xs : List V) (v : Value) (us : List Value) (Q : VK), Inv X pins σ H s → RelV x v → Vals xs us → r x xs H Q →
    wpAny (model X.prog X.w) X.A (call (.builtin id) (v :: us)) (EP X pins σ Q) X.xe s

/-! ### lists of values -/
theorem Vals.one : ∀ {x : V} {us : List Value}, Vals [x] us → ∃ u, us = [u] ∧ RelV x u
  := by
  intro x us h
  cases h with
  | cons r t =>
    cases t
    exact ⟨_, rfl, r⟩

section
variable {X : Cx} {pins : List (Addr × Obj)} {σ : St} {H : Hp} {s : Shared} {l b : Addr} {xs ys zs : List V}

/-! ### the two steps: a tracked list is rewritten, a new list is laid -/
theorem Inv.lset {its its' : List Value} {n : Nat} {f : Array Value → Array Value} {t' : Nat} (I : Inv X pins σ H s) (hH : H l = some (.lst xs))
    (e : s.heap.get? l = some { cls := .type "list", data := .seq its.toArray n }) (hf : f its.toArray = its'.toArray) (hv : Vals ys its') (hz : ys.length ≤ sizeLine) :
    Inv X pins σ (upd H l (.lst ys)) { s with heap := s.heap.update l (Obj.mapSeq f), toks := t' } := by
  have q := PySem.IsL.update e f
  rw [hf] at q
  refine I.write (x := l) (e := l) (by rw [hH]; exact trivial) (.inl rfl) (fun b' u hb hu => (Heap.get?_update_other s.heap (Obj.mapSeq f) (Ne.symm hb)).trans hu) ⟨_, q⟩ ?_
  exact ⟨hz, its', _, hv, q⟩
theorem Inv.lnew {its : List Value} {t' : Nat} (I : Inv X pins σ H s) (hv : Vals ys its) (hz : ys.length ≤ sizeLine) :
    Inv X pins σ (upd H s.heap.objs.size (.lst ys)) { s with heap := s.heap.push { cls := .type "list", data := .seq its.toArray }, toks := t' } :=
  I.laid (fun _ _ q => Heap.get?_push_of_some _ q) (Nat.le_refl _) ⟨hz, its, 0, hv, Heap.get?_push_size _ rfl⟩
theorem Inv.fresh (I : Inv X pins σ H s) : H s.heap.objs.size = none := I.hok.fresh (Nat.le_refl _)
theorem Inv.lstM (I : Inv X pins σ H s) (hH : H l = some (.lst xs)) : xs.length ≤ sizeLine ∧ ∃ (its : List Value) (n : Nat), Vals xs its ∧ xs.length = its.length ∧ s.heap.get? l = some { cls := .type "list", data := .seq its.toArray n } := by
  obtain ⟨z, its, n, r, e⟩ := I.hok l _ hH
  exact ⟨z, its, n, r, r.length, e⟩

theorem notLongL {n : Nat} (h : n ≤ sizeLine) : Builtin.List.listTooLong n = false := by
  unfold Builtin.List.listTooLong
  exact decide_eq_false (by omega)
end

section
variable {X : Cx}

/-! ### methods -/
inductive AppR (x : V) (vs : List V) (H : Hp) (Q : VK) : Prop
  | mk (l : Addr) (xs : List V) (y : V) (hx : x = .ref l) (hv : vs = [y]) (h : H l = some (.lst xs)) (hz : xs.length < sizeLine) (q : Q .non (upd H l (.lst (xs ++ [y])))) : AppR x vs H Q
def rAppend : V → List V → Hp → VK → Prop := AppR
theorem mt_append : MtM X "list.append" rAppend := by
  intro pins s σ H x vs v us Q I rx rv h
  obtain ⟨l, xs, y, rfl, rfl, hH, hz, q⟩ := h
  cases rx
  obtain ⟨u, rfl, ru⟩ := rv.one
  obtain ⟨z, its, n, r, hl, e⟩ := I.lstM hH
  refine call_meets F.slot_list_append ⟨_, e, rfl⟩ F.entry_list_append (F.args_list_append_2 _ _) (PySem.list_append l its.toArray n u (by rw [List.size_toArray]; omega)) ⟨e, ?_⟩
  refine ⟨.non, _, I.lset (its' := its ++ [u]) hH e (by simp) (r.append (.cons ru .nil)) ?_, rfl, q⟩
  rw [List.length_append, List.length_singleton]
  omega

def rExtend : V → List V → Hp → VK → Prop := fun x vs H Q => ∃ l b xs zs, x = .ref l ∧ vs = [.ref b] ∧ H l = some (.lst xs) ∧ H b = some (.lst zs) ∧ xs.length + zs.length ≤ sizeLine ∧ Q .non (upd H l (.lst (xs ++ zs)))
theorem mt_extend : MtM X "list.extend" rExtend := by
  intro pins s σ H x vs v us Q I rx rv h
  obtain ⟨l, b, xs, zs, rfl, rfl, hH, hB, hz, q⟩ := h
  cases rx
  obtain ⟨u, rfl, ru⟩ := rv.one
  cases ru
  obtain ⟨z, its, n, r, hl, e⟩ := I.lstM hH
  obtain ⟨z2, its2, n2, r2, hl2, e2⟩ := I.lstM hB
  have hsz : its.toArray.size + its2.toArray.size ≤ sizeLine := by rw [List.size_toArray, List.size_toArray]; omega
  have hlong : ¬ (!its.toArray.isEmpty && Builtin.List.listTooLong (its.toArray.size + its2.toArray.size)) = true := by
    rw [notLongL hsz, Bool.and_false]
    exact Bool.false_ne_true
  refine call_meets F.slot_list_extend ⟨_, e, rfl⟩ F.entry_list_extend (F.args_list_extend_2 _ _)
    (AutoSeq1.list_extend_list_list_0 l its.toArray n b its2.toArray n2 hlong (by rw [List.size_toArray]; omega) (by omega)) ⟨e, e2, ?_⟩
  refine ⟨.non, _, I.lset (its' := its ++ its2) hH e (by simp) (r.append r2) ?_, rfl, q⟩
  rw [List.length_append]
  omega





/-! ### list + list, list += list, list * int -/
def rCat : R2 := fun x y H Q => ∃ l b xs zs, x = .ref l ∧ y = .ref b ∧ H l = some (.lst xs) ∧ H b = some (.lst zs) ∧ xs.length + zs.length ≤ sizeLine ∧ ∀ p, H p = none → Q (.ref p) (upd H p (.lst (xs ++ zs)))
theorem op_cat : OpR X (binaryOp .Add) rCat := by
  intro pins s σ H x y v u Q I rx ry h
  obtain ⟨l, b, xs, zs, rfl, rfl, hH, hB, hz, q⟩ := h
  cases rx
  cases ry
  obtain ⟨z, its, n, r, hl, e⟩ := I.lstM hH
  obtain ⟨z2, its2, n2, r2, hl2, e2⟩ := I.lstM hB
  refine PySem.P.add_list e e2 ?_ (by rw [List.size_toArray, List.size_toArray]; omega)
  have ea : its.toArray ++ its2.toArray = (its ++ its2).toArray := by simp
  rw [ea]
  exact ⟨.ref _, _, I.lnew (t' := s.toks) (r.append r2) (by rw [List.length_append]; omega), rfl, q _ I.fresh⟩

/-! ### del xs[i] -/
end

/-! ### xs[a:b] = ys -/

end L2

namespace L2
open PySem PySem.Spec PyProof.Rows

theorem Vals.ints : ∀ {ns : List Int} {us : List Value}, Vals (ns.map V.int) us → IntsAre us ns
  | [], us, h => by
    rw [List.map_nil] at h
    cases h
    exact IntsAre.nil
  | n :: ns, us, h => by
    rw [List.map_cons] at h
    cases h with
    | cons r t =>
      obtain ⟨k, rfl⟩ := r
      exact IntsAre.cons n k (Vals.ints t)
theorem vals_of_ints {us : List Value} {ns : List Int} (h : IntsAre us ns) : Vals (ns.map V.int) us := by
  induction h with
  | nil => exact Paired.nil
  | cons n t h ih => exact Paired.cons (show RelV (V.int n) (Value.int n t) from ⟨t, rfl⟩) ih

/-! ### the library's walks over a list of ints, kept objects alone -/

/-! ### the calls, by values (CallR of 03t; MtR of 06l) -/
section
variable {X : Cx}

/-! sorted, sort (fewer than 64 items: the library's own bound) -/
end

/-! ### list.index, flat items -/

/-! ### type(x) of an own instance; is, is not of a module's class -/

/-! ### any(xs), all(xs) of a list of bools -/

/-! ### == and != of data at any depth: none, bools, ints, texts, lists, tuples -/
end L2

namespace L2
open PySem PySem.Spec PyProof.Rows
abbrev CellAt (h : Heap) (c : Addr) (v : Option Value) : Prop := h.IsCell c v
def relS (scope sc : Scope) : Scope :=
  { scope with names := scope.names.map fun (n, k) => if (k == .free && sc.kind == .function && sc.names.lookup n == some .cell) then (n, .cell) else (n, k) }

def cloFrom (cells : List (Str × Addr)) : List (Str × NameKind) → List (Str × Addr) → List (Str × Addr)
  | [], acc => acc
  | (n, k) :: r, acc => if k == .free then cloFrom cells r ((n, (cells.lookup n).getD 0) :: acc) else cloFrom cells r acc

theorem closure_loop (env : Env) (f : Str × NameKind → List (Str × Addr) → Sem (ForInStep (List (Str × Addr))))
    (hf : ∀ n k c, f (n, k) c = if k == .free then (do let a ← cellOf env n; pure (.yield ((n, a) :: c))) else pure (.yield c)) :
    ∀ (names : List (Str × NameKind)) (acc : List (Str × Addr)), (∀ y ∈ names, y.2 = .free → ∃ c, env.cells.lookup y.1 = some c) → forIn names acc f = pure (cloFrom env.cells names acc)
  | [], acc, _ => by rw [List.forIn_nil]; rfl
  | (n, k) :: r, acc, h => by
    rw [List.forIn_cons, hf]
    have ih := fun acc => closure_loop env f hf r acc fun y hy => h y (List.mem_cons_of_mem _ hy)
    unfold cloFrom
    by_cases hk : (k == NameKind.free) = true
    · rw [if_pos hk, if_pos hk]
      obtain ⟨c, hc⟩ := h (n, k) List.mem_cons_self (by simpa using hk)
      have e : cellOf env n = pure c := by unfold cellOf; rw [hc]
      rw [e]
      have e2 : (env.cells.lookup n).getD 0 = c := by rw [hc]; rfl
      rw [e2]
      exact ih _
    · rw [if_neg hk, if_neg hk]
      exact ih _
theorem closure_ok {scope : Scope} {env : Env} (h : ∀ y ∈ scope.names, y.2 = .free → ∃ c, env.cells.lookup y.1 = some c) : closureFor scope env = pure (cloFrom env.cells scope.names []) := by
  simp only [closureFor]
  rw [closure_loop env _ (fun n k c => rfl) scope.names [] h]
  rfl

theorem mem_lookup {α : Type} : ∀ {l : List (Str × α)} {n : Str} {c : α}, (n, c) ∈ l → ∃ c', l.lookup n = some c'
  | (k, v) :: r, n, c, h => by
    rw [List.lookup_cons]
    cases hb : n == k with
    | true => exact ⟨_, rfl⟩
    | false =>
      rcases List.mem_cons.mp h with e | h
      · cases e; simp at hb
      · exact mem_lookup h

theorem cloFrom_mem {cells : List (Str × Addr)} : ∀ {names : List (Str × NameKind)} {acc : List (Str × Addr)} {n : Str} {c : Addr}, (n, c) ∈ cloFrom cells names acc → (n, c) ∈ acc ∨ ((n, .free) ∈ names ∧ c = (cells.lookup n).getD 0)
  | [], _, _, _, h => .inl h
  | (m, k) :: r, acc, n, c, h => by
    unfold cloFrom at h
    split at h
    · rename_i hk
      have hk : k = .free := by simpa using hk
      rcases cloFrom_mem h with h | ⟨h1, h2⟩
      · rcases List.mem_cons.mp h with e | h
        · cases e; exact .inr ⟨hk ▸ List.mem_cons_self, rfl⟩
        · exact .inl h
      · exact .inr ⟨List.mem_cons_of_mem _ h1, h2⟩
    · rcases cloFrom_mem h with h | ⟨h1, h2⟩
      · exact .inl h
      · exact .inr ⟨List.mem_cons_of_mem _ h1, h2⟩
theorem cloFrom_acc {cells : List (Str × Addr)} : ∀ {names : List (Str × NameKind)} {acc : List (Str × Addr)} {p : Str × Addr}, p ∈ acc → p ∈ cloFrom cells names acc
  | [], _, _, h => h
  | (m, k) :: r, acc, p, h => by
    unfold cloFrom
    split
    · exact cloFrom_acc (List.mem_cons_of_mem _ h)
    · exact cloFrom_acc h
theorem cloFrom_has {cells : List (Str × Addr)} : ∀ {names : List (Str × NameKind)} {acc : List (Str × Addr)} {n : Str}, (n, .free) ∈ names → (n, (cells.lookup n).getD 0) ∈ cloFrom cells names acc
  | (m, k) :: r, acc, n, h => by
    unfold cloFrom
    rcases List.mem_cons.mp h with e | h
    · cases e
      exact cloFrom_acc List.mem_cons_self
    · split
      · exact cloFrom_has h
      · exact cloFrom_has h

theorem cells_mem : ∀ {names : List (Str × NameKind)} {h : Heap} {acc : List (Str × Addr)} {x : Str} {c : Addr}, (x, c) ∈ cellsFrom h.objs.size names acc →
    (x, c) ∈ acc ∨ ((x, .cell) ∈ names ∧ h.objs.size ≤ c ∧ CellAt (pushCells h names) c none)
  | [], _, _, _, _, h => .inl h
  | (n, k) :: r, h, acc, x, c, hm => by
    unfold cellsFrom at hm
    unfold pushCells
    split at hm
    · rename_i hk
      rw [if_pos hk]
      have hk : k = .cell := by simpa using hk
      rw [← Heap.size_push h { cls := .type "cell", data := .cell none }] at hm
      rcases cells_mem hm with hm | ⟨h1, h2, h3⟩
      · rcases List.mem_cons.mp hm with e | hm
        · cases e
          exact .inr ⟨hk ▸ List.mem_cons_self, Nat.le_refl _, _, pushCells_keeps r _ _ _ (Heap.get?_push_size _ rfl), rfl⟩
        · exact .inl hm
      · rw [Heap.size_push] at h2
        exact .inr ⟨List.mem_cons_of_mem _ h1, Nat.le_of_succ_le h2, h3⟩
    · rename_i hk
      rw [if_neg hk]
      rcases cells_mem hm with hm | ⟨h1, h2, h3⟩
      · exact .inl hm
      · exact .inr ⟨List.mem_cons_of_mem _ h1, h2, h3⟩
theorem cells_acc : ∀ {names : List (Str × NameKind)} {n : Nat} {acc : List (Str × Addr)} {p : Str × Addr}, p ∈ acc → p ∈ cellsFrom n names acc
  | [], _, _, _, h => h
  | (m, k) :: r, n, acc, p, h => by
    unfold cellsFrom
    split
    · exact cells_acc (List.mem_cons_of_mem _ h)
    · exact cells_acc h
theorem cells_has : ∀ {names : List (Str × NameKind)} {n : Nat} {acc : List (Str × Addr)} {x : Str}, (x, .cell) ∈ names → ∃ c, (x, c) ∈ cellsFrom n names acc
  | (m, k) :: r, n, acc, x, h => by
    unfold cellsFrom
    rcases List.mem_cons.mp h with e | h
    · cases e
      exact ⟨n, cells_acc List.mem_cons_self⟩
    · split
      · exact cells_has h
      · exact cells_has h
theorem cells_inj : ∀ {names : List (Str × NameKind)} {h : Heap} {acc : List (Str × Addr)} {x y : Str} {c : Addr}, (∀ p ∈ acc, p.2 < h.objs.size) → (∀ x y c, (x, c) ∈ acc → (y, c) ∈ acc → x = y) →
    (x, c) ∈ cellsFrom h.objs.size names acc → (y, c) ∈ cellsFrom h.objs.size names acc → x = y
  | [], _, _, _, _, _, _, hi, h1, h2 => hi _ _ _ h1 h2
  | (n, k) :: r, h, acc, x, y, c, hl, hi, h1, h2 => by
    unfold cellsFrom at h1 h2
    split at h1
    · rename_i hk
      rw [if_pos hk] at h2
      rw [← Heap.size_push h { cls := .type "cell", data := .cell none }] at h1 h2
      refine cells_inj (h := h.push _) (fun p hp => ?_) (fun x y c a b => ?_) h1 h2
      · rw [Heap.size_push]
        rcases List.mem_cons.mp hp with rfl | hp
        · exact Nat.lt_succ_self _
        · exact Nat.lt_succ_of_lt (hl p hp)
      · rcases List.mem_cons.mp a with e | a <;> rcases List.mem_cons.mp b with e' | b
        · cases e; cases e'; rfl
        · cases e; exact absurd (hl _ b) (Nat.lt_irrefl _)
        · cases e'; exact absurd (hl _ a) (Nat.lt_irrefl _)
        · exact hi _ _ _ a b
    · rename_i hk
      rw [if_neg hk] at h2
      exact cells_inj hl hi h1 h2

theorem newEnv_comp {M : Model} {A : Around} {E : Value → Shared → Prop} {s : Shared} {scope : Scope} {globals : Addr} {closure : List (Str × Addr)} {qual : Str} {func : Option Addr} {code : Value} {around : Env} {builtins : Addr} {Q : Env → Shared → Prop}
    (h : Q (newEnv scope s.heap.objs.size globals (cellsFrom (s.heap.objs.size + 1) scope.names closure) qual func code (some around) builtins)
      { s with heap := pushCells (s.heap.push { cls := .type "dict", data := .dict #[] }) scope.names }) :
    wpAny M A (newFunctionEnv scope globals closure [] qual func code (some around) builtins) Q E s := by
  simp only [newFunctionEnv, Option.isSome_some, if_true]
  refine wpAny_bind (wpAny_alloc ?_)
  refine wpAny_bind (wpAny_layCells _ (fun n k c => rfl) scope.names closure _ _ ?_)
  rw [show ({ s with heap := s.heap.push { cls := .type "dict", data := .dict #[] } } : Shared).heap.objs.size = s.heap.objs.size + 1 from Heap.size_push ..]
  rw [List.forIn_nil]
  exact wpAny_bind (wpAny_pure (wpAny_pure h))

/-- every name of the written scope, in the scope that runs -/
theorem lookup_relS {sc : Scope} : ∀ {names : List (Str × NameKind)} {x : Str} {k : NameKind},
    (names.map fun (n, k) => if (k == NameKind.free && sc.kind == .function && sc.names.lookup n == some .cell) then (n, NameKind.cell) else (n, k)).lookup x = some k →
    ∃ k', names.lookup x = some k' ∧ (k = k' ∨ (k' = .free ∧ k = .cell))
  | [], _, _, h => by simp at h
  | (n, k₀) :: r, x, k, h => by
    have ih := @lookup_relS sc r x k
    have h' : List.lookup x ((if (k₀ == NameKind.free && sc.kind == .function && sc.names.lookup n == some .cell) = true then (n, NameKind.cell) else (n, k₀)) :: (r.map _)) = some k := h
    cases hx : x == n with
    | true =>
      simp only [List.lookup_cons, hx]
      by_cases hc : (k₀ == NameKind.free && sc.kind == .function && sc.names.lookup n == some .cell) = true
      · rw [if_pos hc] at h'
        simp only [List.lookup_cons, hx] at h'
        cases h'
        simp only [Bool.and_eq_true, beq_iff_eq] at hc
        exact ⟨k₀, rfl, .inr ⟨hc.1.1, rfl⟩⟩
      · rw [if_neg hc] at h'
        simp only [List.lookup_cons, hx] at h'
        cases h'
        exact ⟨_, rfl, .inl rfl⟩
    | false =>
      simp only [List.lookup_cons, hx]
      by_cases hc : (k₀ == NameKind.free && sc.kind == .function && sc.names.lookup n == some .cell) = true
      · rw [if_pos hc] at h'
        simp only [List.lookup_cons, hx] at h'
        exact ih h'
      · rw [if_neg hc] at h'
        simp only [List.lookup_cons, hx] at h'
        exact ih h'



/-- the names of a comprehension's block: its own (with their places in N), or captured -/
structure BlkOk (N : List Str) (sc scope : Scope) (own : List (Str × Nat)) : Prop where
  kind : scope.kind = .function
  uniq : ∀ y ∈ scope.names, scope.names.lookup y.1 = some y.2
  ix : ∀ p ∈ own, N[p.2]? = some p.1
  free : ∀ y ∈ scope.names, y.2 = .free → sc.names.lookup y.1 = some .cell ∨ sc.names.lookup y.1 = some .free
  own : ∀ y ∈ scope.names, y.2 = .local ∨ y.2 = .cell → y.1 ∈ own.map (·.1) ∨ y.1 ∉ N
/-- the slots of the block's own names forgotten -/
def wipe (σ : St) : List Nat → St
  | [] => σ
  | v :: vs => (wipe σ vs).set v none
theorem wipe_length (σ : St) : ∀ vs : List Nat, (wipe σ vs).length = σ.length
  | [] => rfl
  | v :: vs => by unfold wipe; rw [List.length_set, wipe_length σ vs]
theorem wipe_some {σ : St} {i : Nat} {x : V} : ∀ {vs : List Nat}, (wipe σ vs)[i]? = some (some x) → σ[i]? = some (some x) ∧ i ∉ vs
  | [], h => ⟨h, by simp⟩
  | v :: vs, h => by
    unfold wipe at h
    by_cases hi : v = i
    · subst hi
      by_cases hv : v < (wipe σ vs).length
      · rw [List.getElem?_set_self hv] at h; cases h
      · rw [List.getElem?_eq_none (by simpa using hv)] at h; cases h
    · rw [List.getElem?_set_ne hi] at h
      obtain ⟨h1, h2⟩ := wipe_some h
      exact ⟨h1, by simp only [List.mem_cons, not_or]; exact ⟨fun e => hi e.symm, h2⟩⟩

/-- the context of a block that starts at s, its iterator's objects at fp -/
abbrev Cx.blk (X : Cx) (s : Shared) (H : Hp) (scope : Scope) (cenv : Env) (fp : List Addr) : Cx := { X with s_0 := s, H_0 := H, env := cenv, outer := X.stack, ex := fp, fn := fun x => scope.names.lookup x == some .cell, pn := [], xe := fun _ _ => False }
section
variable {X : Cx} {pins : List (Addr × Obj)} {σ : St} {H : Hp} {s : Shared}
theorem block_start {scope : Scope} {own : List (Str × Nat)} {fp : List Addr} (I : Inv X pins σ H s) (ok : BlkOk X.N X.env.scope scope own) (hN : X.N.Nodup) (hfp : ∀ b ∈ fp, FpOk X pins H b ∧ b < s.heap.objs.size) :
    Inv (X.blk s H scope (compEnvC scope (cellsFrom (s.heap.objs.size + 1) scope.names (cloFrom X.env.cells scope.names [])) s.heap.objs.size X.env) fp) [] (wipe σ (own.map (·.2))) H { s with heap := pushCells (s.heap.push { cls := .type "dict", data := .dict #[] }) scope.names } := by
  have hfree : ∀ y ∈ scope.names, y.2 = .free → ∃ c, X.env.cells.lookup y.1 = some c := fun y hy e => by
    rcases ok.free y hy e with k | k
    · exact I.ok.has _ (.inl k)
    · exact I.ok.has _ (.inr k)
  generalize hcenv : compEnvC scope (cellsFrom (s.heap.objs.size + 1) scope.names (cloFrom X.env.cells scope.names [])) s.heap.objs.size X.env = cenv
  have kp : ∀ b o, s.heap.get? b = some o → (pushCells (s.heap.push { cls := .type "dict", data := .dict #[] }) scope.names).get? b = some o := fun b o e => pushCells_keeps _ _ _ _ (Heap.get?_push_of_some _ e)
  have hL : cenv.locals = s.heap.objs.size := by rw [← hcenv]; rfl
  have hcl : cenv.cells = cellsFrom (s.heap.objs.size + 1) scope.names (cloFrom X.env.cells scope.names []) := by rw [← hcenv]; rfl
  have hsc : cenv.scope = relS scope X.env.scope := by rw [← hcenv]; rfl
  rw [← Heap.size_push s.heap { cls := .type "dict", data := .dict #[] }] at hcl
  have cm : ∀ {y c}, (y, c) ∈ cloFrom X.env.cells scope.names [] → X.env.cells.lookup y = some c ∧ c < s.heap.objs.size := fun {y c} hm => by
    rcases cloFrom_mem hm with hm | ⟨h1, rfl⟩
    · cases hm
    · obtain ⟨c, hc⟩ := hfree _ h1 rfl
      rw [hc]
      obtain ⟨w, z⟩ := I.cell _ _ hc
      exact ⟨rfl, z.lt⟩
  have mem : ∀ {y c}, cenv.cells.lookup y = some c → (X.env.cells.lookup y = some c ∧ c < s.heap.objs.size) ∨ (s.heap.objs.size + 1 ≤ c ∧ CellAt (pushCells (s.heap.push { cls := .type "dict", data := .dict #[] }) scope.names) c none) := fun {y c} e => by
    rw [hcl] at e
    rcases cells_mem (PySem.mem_of_lookup e) with hm | ⟨_, h2, h3⟩
    · exact .inl (cm hm)
    · rw [Heap.size_push] at h2; exact .inr ⟨h2, h3⟩
  have look : ∀ {y}, scope.names.lookup y = some .free → ∃ c, cenv.cells.lookup y = some c ∧ X.env.cells.lookup y = some c := fun {y} hl => by
    have hy : (y, NameKind.free) ∈ scope.names := PySem.mem_of_lookup hl
    obtain ⟨c', e'⟩ := mem_lookup (cells_acc (names := scope.names) (n := (s.heap.push { cls := .type "dict", data := .dict #[] }).objs.size) (cloFrom_has (cells := X.env.cells) (acc := []) hy))
    rw [← hcl] at e'
    refine ⟨c', e', ?_⟩
    rw [hcl] at e'
    rcases cells_mem (PySem.mem_of_lookup e') with hm | ⟨h1, _, _⟩
    · exact (cm hm).1
    · have := ok.uniq _ h1
      rw [hl] at this; cases this
  have okB : (X.blk s H scope cenv fp).Ok := by
    refine ⟨I.ok.mod, by show cenv.scope.kind = _; rw [hsc]; exact ok.kind, by show cenv.globals = _; rw [← hcenv]; exact I.ok.glob, by show cenv.builtins = _; rw [← hcenv]; exact I.ok.blt, by show s.heap.objs.size ≤ cenv.locals; rw [hL]; exact Nat.le_refl _,
      fun y z c e1 e2 => ?_, fun y hy => ?_, fun y c z e => ?_, I.ok.hd, I.ok.frames, .inl rfl, fun b hb => ⟨?_, fun y c e z => ?_⟩, I.bs, Nat.le_trans I.ok.bsz I.sz, fun b o e hb => ?_, fun b hb z => ?_, I.stack, I.stkFree⟩
    · have e1 : cenv.cells.lookup y = some c := e1
      have e2 : cenv.cells.lookup z = some c := e2
      rw [hcl] at e1 e2
      refine cells_inj (fun p hp => ?_) (fun y z c a b => I.ok.inj y z c (cm a).1 (cm b).1) (PySem.mem_of_lookup e1) (PySem.mem_of_lookup e2)
      rw [Heap.size_push]
      exact Nat.lt_succ_of_lt (cm (y := p.1) (c := p.2) hp).2
    · show ∃ c, cenv.cells.lookup y = some c
      have key : ∀ k, cenv.kindOf y = some k → (k = .cell ∨ k = .free) → ∃ c, cenv.cells.lookup y = some c := fun k hk hk' => by
        unfold Env.kindOf at hk
        rw [hsc] at hk
        obtain ⟨k', e, r⟩ := lookup_relS hk
        have : k' = .cell ∨ k' = .free := by
          rcases r with rfl | ⟨rfl, _⟩
          · exact hk'
          · exact .inr rfl
        rcases this with rfl | rfl
        · obtain ⟨c, hm⟩ := cells_has (n := (s.heap.push { cls := .type "dict", data := .dict #[] }).objs.size) (acc := cloFrom X.env.cells scope.names []) (PySem.mem_of_lookup e)
          obtain ⟨c', e'⟩ := mem_lookup hm
          exact ⟨c', by rw [hcl]; exact e'⟩
        · obtain ⟨c, h1, _⟩ := look e
          exact ⟨c, h1⟩
      rcases hy with hy | hy
      · exact key _ hy (.inl rfl)
      · exact key _ hy (.inr rfl)
    · have z : (scope.names.lookup y == some NameKind.cell) = true := z
      have z : scope.names.lookup y = some .cell := by simpa using z
      have e : cenv.cells.lookup y = some c := e
      rw [hcl] at e
      rcases cells_mem (PySem.mem_of_lookup e) with hm | ⟨_, h2, _⟩
      · rcases cloFrom_mem hm with hm | ⟨h1, _⟩
        · cases hm
        · have q := ok.uniq _ h1
          rw [z] at q; cases q
      · rw [Heap.size_push] at h2
        exact Nat.le_of_succ_le h2
    · show b ≠ cenv.locals
      rw [hL]; exact Nat.ne_of_lt (hfp b hb).2
    · have e : cenv.cells.lookup y = some c := e
      rcases mem e with ⟨h1, _⟩ | ⟨h1, _⟩
      · exact (hfp b hb).1.2.2.2.2.1 y c h1 z
      · have h2 : s.heap.objs.size + 1 ≤ b := by rw [← z]; exact h1
        exact absurd (Nat.lt_of_lt_of_le (hfp b hb).2 (Nat.le_of_succ_le h2)) (Nat.lt_irrefl _)
    · rcases (hfp b hb).1.2.2.2.1 with z | z
      · exact I.ok.noex b o e z
      · exact absurd (Nat.lt_of_lt_of_le (Heap.lt_size e) (Nat.le_trans I.ok.bsz z)) (Nat.lt_irrefl _)
    · rcases List.mem_cons.mp (I.stkSub b z) with z | z
      · exact (hfp b hb).1.2.1 z
      · exact (hfp b hb).1.2.2.1 z
  refine ⟨okB, rfl, I.bare, Un.kept kp, ⟨fun _ => none, ?_, fun i y av e1 e2 e3 => ?_⟩, fun y c e => ?_, ?_, fun y c e => ?_, fun p hp => ?_, I.hok.kept kp, by rw [wipe_length]; exact I.len⟩
  · show Heap.Ns _ cenv.locals _
    rw [hL]
    exact Heap.Ns.keeps (Heap.Ns.new ..) fun b o e => pushCells_keeps _ _ _ _ e
  · obtain ⟨e2, hne⟩ := wipe_some e2
    have hfr : scope.names.lookup y = some .free ∧ (cenv.kindOf y = some .cell ∨ cenv.kindOf y = some .free) := by
      have key : ∀ k, cenv.scope.names.lookup y = some k → k = .local ∨ k = .cell ∨ k = .free → scope.names.lookup y = some .free ∧ (cenv.kindOf y = some .cell ∨ cenv.kindOf y = some .free) := fun k hk hk' => by
        have hk0 := hk
        rw [hsc] at hk
        obtain ⟨k', e, r⟩ := lookup_relS hk
        have no : ¬ (k' = .local ∨ k' = .cell) := fun hh => by
          rcases ok.own _ (PySem.mem_of_lookup e) hh with e' | e'
          · obtain ⟨p, hp, hpy⟩ := List.mem_map.mp e'
            have e3 := ok.ix p hp
            have : p.1 = y := hpy
            rw [this] at e3
            exact hne (List.mem_map.mpr ⟨p, hp, nodup_ix hN e3 e1⟩)
          · exact e' (List.mem_of_getElem? e1)
        rcases r with rfl | ⟨rfl, rfl⟩
        · rcases hk' with rfl | rfl | rfl
          · exact absurd (.inl rfl) no
          · exact absurd (.inr rfl) no
          · exact ⟨e, .inr hk0⟩
        · exact ⟨e, .inl hk0⟩
      have e3 : Vis cenv.scope y := e3
      rcases e3 with e3 | e3 | e3
      · exact key _ e3 (.inl rfl)
      · exact key _ e3 (.inr (.inl rfl))
      · exact key _ e3 (.inr (.inr rfl))
    obtain ⟨m, hn, hl⟩ := I.loc
    have hvis : Vis X.env.scope y := (ok.free _ (PySem.mem_of_lookup hfr.1) rfl).elim (fun k => .inr (.inl k)) (fun k => .inr (.inr k))
    obtain ⟨w, r, q⟩ := hl i y av e1 e2 hvis
    refine ⟨w, r, .inr ⟨hfr.2, ?_⟩⟩
    obtain ⟨c, h1, h2⟩ := look hfr.1
    rcases q with ⟨k, _⟩ | ⟨_, c', e', z⟩
    · have k : X.env.scope.names.lookup y = some .local := k
      rcases ok.free _ (PySem.mem_of_lookup hfr.1) rfl with k' | k' <;> rw [show X.env.scope.names.lookup y = _ from k'] at k <;> cases k
    · rw [h2] at e'; cases e'
      exact ⟨c, h1, z.keeps kp⟩
  · have e : cenv.cells.lookup y = some c := e
    rcases mem e with ⟨h1, _⟩ | ⟨_, z⟩
    · obtain ⟨w, z⟩ := I.cell y c h1
      exact ⟨w, z.keeps kp⟩
    · exact ⟨_, z⟩
  · show H cenv.locals = none
    rw [hL]; exact I.hok.fresh (Nat.le_refl _)
  · have e : cenv.cells.lookup y = some c := e
    rcases mem e with ⟨h1, _⟩ | ⟨h1, _⟩
    · exact I.freeC y c h1
    · exact I.hok.fresh (Nat.le_of_succ_le h1)
  · exact absurd (show p ∈ ([] : List (Addr × Obj)) ++ [] from hp) (by simp)

/-- an item appended to a tracked list -/
theorem app_ok {E : Value → Shared → Prop} {D : Addr} {xs : List V} {y : V} {v : Value} {Q : Value → Shared → Prop} (I : Inv X pins σ H s) (hD : H D = some (.lst xs)) (hz : xs.length < sizeLine) (r : RelV y v)
    (h : ∀ s', Inv X pins σ (upd H D (.lst (xs ++ [y]))) s' → Q .none s') : wpAny (model X.prog X.w) X.A (call (.builtin "list.append") [.ref D, v]) Q E s := by
  obtain ⟨hz', its, n, ri, e⟩ := I.hok D _ hD
  have hl := ri.length
  refine append_at (hsz := by rw [List.size_toArray]; omega) e fun h' sb ho' => ?_
  refine h { s with heap := h' } (I.write (t' := s.toks) (by rw [hD]; trivial) (.inl rfl) (fun b u hb q => (sb.2 b hb).trans q) ⟨_, ho'⟩ ⟨by rw [List.length_append]; exact hz, its ++ [v], n + 1, ri.append (.cons r .nil), ?_⟩)
  rw [ho']
  simp

/-- a clause's tests -/
def PTs (X : Cx) (ifs : List Expr) (t : TT) : Prop :=
  ∀ (pins : List (Addr × Obj)) (s : Shared) (σ : St) (H : Hp) (Q : Bool → Hp → Prop), Inv X pins σ H s → t σ H Q →
    wpAny (model X.prog X.w) X.A (forIn ifs true fun c r => if r = true then do let ok ← isTrue c X.env (eval c X.env); pure (ForInStep.yield ok) else pure (ForInStep.yield r)) (TP X pins σ Q) X.xe s
def tYes : TT := fun _ H Q => Q true H
theorem pts_nil : PTs X [] tYes := fun _ _ _ H _ I h => wpAny_tests_nil ⟨H, I, h⟩
end

theorem thnF {α : Type} {t : Sem α} {Q Q' : α → Shared → Prop} {M : Model} {A : Around} {E : Value → Shared → Prop} {s : Shared} (h : wpAny M A t Q (fun _ _ => False) s) (hQ : ∀ a s, Q a s → Q' a s) : wpAny M A t Q' E s := wpAny_mono h hQ fun _ _ z => False.elim z

/-- the loop of a list comprehension's block, the target of any form (codeAny_compLoop_tests asks a target that no tuple goes to; statement and proof follow it, PyProof/CompMap.lean:41-61, with the step letOwnedTupleGo kept) -/
theorem compLoop_any {prog : Program} {w : World} {A : Around} {R : Result → Shared → Prop} {s : Shared} {elt target iter : Expr} {ifs : List Expr} {scope : Scope} {pos : Pos} {it acc : Value} {env : Env} (I : Nat → Shared → Prop)
    (turn : ∀ n s, I n s → wpAny (model prog w) A (pyNext it) (fun r s₁ => match r with
      | none => R (.ok .next) s₁
      | some v => wpAny (model prog w) A (letOwnedTupleGo target it v) (fun _ s₁' => wpAny (model prog w) A (assign target env v) (fun _ s₂ =>
          wpAny (model prog w) A (forIn ifs true fun c r => if r = true then do let ok ← isTrue c env (eval c env); pure (ForInStep.yield ok) else pure (ForInStep.yield r)) (fun ok s₃ =>
            if ok = true then wpAny (model prog w) A (eval elt env) (fun x s₄ =>
              wpAny (model prog w) A (call (.builtin "list.append") [acc, x]) (fun _ s₅ => ∃ m, m < n ∧ I m s₅) (notedBy (model prog w) A env fun e s' => R (.error e) s') s₄) (notedBy (model prog w) A env fun e s' => R (.error e) s') s₃
            else ∃ m, m < n ∧ I m s₃) (notedBy (model prog w) A env fun e s' => R (.error e) s') s₂) (notedBy (model prog w) A env fun e s' => R (.error e) s') s₁') (notedBy (model prog w) A env fun e s' => R (.error e) s') s₁) (notedBy (model prog w) A env fun e s' => R (.error e) s') s)
    (n : Nat) (h : I n s) :
    codeAny (model prog w) A (.compLoop (.ListComp elt [⟨target, iter, ifs, 0⟩] scope pos) 0 it acc env) R s := by
  refine codeAny_loop rfl I (fun n s hI => ?_) n h
  show wpAny _ A ((compTurn (.ListComp elt [⟨target, iter, ifs, 0⟩] scope pos) 0 it acc env).onRaise (fun x => do noteFrame x env; theTreesLotGoes x)) _ _ s
  refine wpAny_noted ?_
  rw [compTurn_list]
  refine wpAny_bind (wpAny_standAt (wpAny_bind (wpAny_mono (turn n s hI) (fun r s₁ h₁ => ?_) fun _ _ h' => h')))
  cases r with
  | none => exact wpAny_pure h₁
  | some v =>
    refine wpAny_bind (wpAny_mono h₁ (fun _ s₁' h₁' => ?_) fun _ _ h' => h')
    refine wpAny_bind (wpAny_mono h₁' (fun _ s₂ h₂ => wpAny_bind (wpAny_mono h₂ (fun ok s₃ h₃ => ?_) fun _ _ h' => h')) fun _ _ h' => h')
    cases ok with
    | false => exact wpAny_pure ⟨rfl, h₃⟩
    | true =>
      exact wpAny_bind (wpAny_bind (wpAny_mono h₃ (fun x s₄ h₄ => wpAny_bind (wpAny_mono h₄ (fun _ s₅ h₅ => wpAny_pure (wpAny_pure ⟨rfl, h₅⟩)) fun _ _ h' => h')) fun _ _ h' => h'))

section
variable {X : Cx}
/-- [elt for target in iter if ..]: D the new list; W by the turn and a measure, Nx what a turn is to reach -/
def tLc (wi : TI) (g : TG) (tt : TT) (te : TE) (vs : List Nat) : TE := fun σ H Q => wi σ H fun J H1 => ∀ D, H1 D = none → ∃ W : Nat → Nat → Hp → Prop, (∃ m, W 0 m (upd H1 D (.lst []))) ∧ ∀ i m H, W i m H →
  (J.stop i H ∧ Q (.ref D) H) ∨ (J.go i H ∧ ∃ Nx : Hp → Prop, (∀ H', Nx H' → ∃ m', m' < m ∧ W (i + 1) m' H') ∧ ∀ x H', J.yld i H x H' → g x (wipe σ vs) H' fun σ2 H2 => wipe σ2 vs = wipe σ vs ∧ tt σ2 H2 fun b H3 =>
    if b = true then te σ2 H3 fun y H4 => ∃ acc, H4 D = some (.lst acc) ∧ acc.length < sizeLine ∧ Nx (upd H4 D (.lst (acc ++ [y]))) else Nx H3)
theorem lc_core {pins : List (Addr × Obj)} {s : Shared} {σ : St} {H : Hp} {Q : VK} {elt tg iter : Expr} {ifs : List Expr} {scope : Scope} {own : List (Str × Nat)} {pos pos' : Pos} {wi : TI} {g : TG} {tt : TT} {te : TE} {use : Option (Value → Sem Unit)} {Qf : Value → Shared → Prop}
    (hc : X.calm = true) (hN : X.N.Nodup) (I : Inv X pins σ H s) (hi : PI X tg iter wi) (ok : BlkOk X.N X.env.scope scope own)
    (hg : ∀ (s : Shared) (H : Hp) (C : Addr) (cl : List (Str × Addr)) (fp : List Addr), PG (X.blk s H scope (compEnvC scope cl C X.env) fp) tg g) (ht : ∀ (s : Shared) (H : Hp) (C : Addr) (cl : List (Str × Addr)) (fp : List Addr), PTs (X.blk s H scope (compEnvC scope cl C X.env) fp) ifs tt)
    (he : ∀ (s : Shared) (H : Hp) (C : Addr) (cl : List (Str × Addr)) (fp : List Addr), PE (X.blk s H scope (compEnvC scope cl C X.env) fp) elt te) (hs : ∀ x, foldedSetIterable iter X.env x = pure x)
    (h : tLc wi g tt te (own.map (·.2)) σ H Q)
    (hRR : ∀ D C s' m H', Inv X pins σ H' s' → Q (.ref D) H' → s'.heap.Ns C m → FpOk X pins H' C → compPost (model X.prog X.w) X.A X.xe use Qf (.ref D) C (.ok .next) s') :
    wpAny (model X.prog X.w) X.A (comprehension (.ListComp elt [⟨tg, iter, ifs, 0⟩] scope pos) scope X.env pos' (newList []) false (eval iter X.env) use) Qf X.xe s := by
  have hfree : ∀ y ∈ scope.names, y.2 = .free → ∃ c, X.env.cells.lookup y.1 = some c := fun y hy e => by
    rcases ok.free y hy e with k | k
    · exact I.ok.has _ (.inl k)
    · exact I.ok.has _ (.inr k)
  refine wpAny_comprehension_free (use := use) rfl hs (closure_ok hfree) ok.kind (fun y hy e => by rw [ok.uniq y hy, e])
    (thn (hi pins s σ H _ I h) fun xv s1 hx => thn hx fun itv s2 h2 => ?_)
  obtain ⟨it, fp, tn, J, H2, e, I2, T, st2, f2, q⟩ := h2
  subst e
  refine wpAny_newObj_type (newEnv_comp ?_) (by show 0 ≤ sizeLine; decide)
  generalize hD : s2.heap.objs.size = D
  have hDn : H2 D = none := I2.hok.fresh (Nat.le_of_eq hD)
  obtain ⟨W, ⟨m0, w0⟩, turn⟩ := q D hDn
  -- the new list
  generalize hs3 : ({ s2 with heap := s2.heap.push { cls := .type "list", data := .seq ([] : List Value).toArray } } : Shared) = s3
  have I3 : Inv X pins σ (upd H2 D (.lst [])) s3 := by
    rw [← hs3]
    refine I2.laid (t' := s2.toks) (fun b o e => Heap.get?_push_of_some _ e) (Nat.le_of_eq hD) ⟨Nat.zero_le _, [], 0, .nil, ?_⟩
    rw [← hD]
    exact Heap.get?_push_size _ rfl
  have h3 : s3.heap = s2.heap.push { cls := .type "list", data := .seq ([] : List Value).toArray } := by rw [← hs3]
  have sz : ∀ b ∈ fp, b < s2.heap.objs.size := fun b hb => by
    obtain ⟨o, e, _⟩ := T.obj _ _ st2 b hb
    exact Heap.lt_size e
  have f3 : ∀ b ∈ fp, FpOk X pins (upd H2 D (.lst [])) b ∧ b < s3.heap.objs.size := fun b hb => by
    have hlt := sz b hb
    refine ⟨⟨?_, (f2 b hb).2⟩, by rw [h3, Heap.size_push]; exact Nat.lt_succ_of_lt hlt⟩
    rw [upd_ne (by rw [← hD]; exact Nat.ne_of_lt hlt)]
    exact (f2 b hb).1
  have st3 : tn 0 s3.heap := T.keep _ _ _ st2 fun b _ o e => by rw [h3]; exact Heap.get?_push_of_some _ e
  have I4 := block_start I3 ok hN f3
  have pg := hg s3 (upd H2 D (.lst [])) s3.heap.objs.size (cellsFrom (s3.heap.objs.size + 1) scope.names (cloFrom X.env.cells scope.names [])) fp
  have pt := ht s3 (upd H2 D (.lst [])) s3.heap.objs.size (cellsFrom (s3.heap.objs.size + 1) scope.names (cloFrom X.env.cells scope.names [])) fp
  have pe := he s3 (upd H2 D (.lst [])) s3.heap.objs.size (cellsFrom (s3.heap.objs.size + 1) scope.names (cloFrom X.env.cells scope.names [])) fp
  show codeAny _ _ (.compStart (.ListComp elt [⟨tg, iter, ifs, 0⟩] scope pos) 0 (.ref it) (.ref D) (compEnvC scope (cellsFrom (s3.heap.objs.size + 1) scope.names (cloFrom X.env.cells scope.names [])) s3.heap.objs.size X.env)) (compPost (model X.prog X.w) X.A X.xe use Qf (.ref D) s3.heap.objs.size) { s3 with heap := pushCells (s3.heap.push { cls := .type "dict", data := .dict #[] }) scope.names }
  have nfp : ∀ b ∈ fp, (upd H2 D (.lst [])) b = none := fun b hb => (f3 b hb).1.1
  generalize hce : compEnvC scope (cellsFrom (s3.heap.objs.size + 1) scope.names (cloFrom X.env.cells scope.names [])) s3.heap.objs.size X.env = ce at I4 pg pt pe ⊢
  have cL : ce.locals = s3.heap.objs.size := by subst hce; rfl
  generalize hH3 : upd H2 D (.lst []) = H3 at I3 I4 pg pt pe w0 nfp f3
  generalize hs4 : ({ s3 with heap := pushCells (s3.heap.push { cls := .type "dict", data := .dict #[] }) scope.names } : Shared) = s4 at I4 ⊢
  have st4 : tn 0 s4.heap := T.keep _ _ _ st3 fun b _ o e => by rw [← hs4]; exact pushCells_keeps _ _ _ _ (Heap.get?_push_of_some _ e)
  have stat : ∀ {σ' : St} {H' : Hp} {s' : Shared}, Inv (X.blk s3 H3 scope ce fp) [] σ' H' s' → (∀ b ∈ fp, H' b = none) → ∀ b ∈ fp, FpOk (X.blk s3 H3 scope ce fp) [] H' b := fun {σ' H' s'} I' hn b hb =>
    ⟨hn b hb, (I'.ok.exf b hb).1, I'.ok.exfs b hb, .inl hb, fun x c e => (I'.ok.exf b hb).2 x c e, fun p hp => absurd (show p ∈ ([] : List (Addr × Obj)) ++ [] from hp) (by simp)⟩
  have loop : codeAny (model X.prog X.w) X.A (.compLoop (.ListComp elt [⟨tg, iter, ifs, 0⟩] scope pos) 0 (.ref it) (.ref D) ce) (compPost (model X.prog X.w) X.A X.xe use Qf (.ref D) s3.heap.objs.size) s4 := by
    refine compLoop_any (fun n s' => ∃ i H', Inv (X.blk s3 H3 scope ce fp) [] (wipe σ (own.map (·.2))) H' s' ∧ tn i s'.heap ∧ (∀ b ∈ fp, H' b = none) ∧ W i n H') ?_ m0 ⟨0, H3, I4, st4, nfp, w0⟩
    rintro n s5 ⟨i, H5, I5, st5, n5, w5⟩
    rcases turn i n H5 w5 with ⟨stop, qq⟩ | ⟨go, Nx, hNx, step⟩
    · have td := T.done (X.blk s3 H3 scope ce fp) rfl rfl rfl hc i [] s5 _ H5 (fun _ _ => False) I5 (stat I5 n5) st5 stop
      refine thnF td fun r s6 hq9 => ?_
      obtain ⟨hr, I6⟩ := hq9
      subst hr
      -- back in the def's context
      have I7 : Inv X pins σ H5 s6 := I3.call' (ch := fp) I6.os I6.base I6.hok I6.bare fun b hb => ⟨(f3 b hb).1.2.2.2.1, (f3 b hb).1.2.1, (f3 b hb).1.2.2.2.2.1, (f3 b hb).1.2.2.2.2.2⟩
      have nC : H5 s3.heap.objs.size = none := by
        have z : H5 ce.locals = none := I6.free
        rw [cL] at z
        exact z
      obtain ⟨m, hn, _⟩ := I6.loc
      have hn : s6.heap.Ns ce.locals m := hn
      rw [cL] at hn
      exact hRR D s3.heap.objs.size s6 m H5 I7 qq hn (I3.fpOk (Nat.le_refl _) nC)
    · have ti := T.item (X.blk s3 H3 scope ce fp) rfl rfl rfl hc i [] s5 _ H5 (fun _ _ => False) I5 (stat I5 n5) st5 go
      refine thnF ti fun r s6 hq9 => ?_
      obtain ⟨u, hr, h6⟩ := hq9
      subst hr
      refine thnF h6 fun _ s7 hq9 => ?_
      obtain ⟨x, H7, I7, r7, y7, st7, n7⟩ := hq9
      have I7' := I7.pinned (stat I7 n7) (T.obj _ _ st7)
      refine thnF (pg _ s7 _ H7 x u _ I7' r7 (step x H7 y7)) fun _ s8 hq9 => ?_
      obtain ⟨σ8, H8, I8, hw8, q8⟩ := hq9
      refine thnF (pt _ s8 σ8 H8 _ I8 q8) fun b s9 hq9 => ?_
      obtain ⟨H9, I9, q9⟩ := hq9
      -- the turn's end
      have fin : ∀ {s' : Shared} {H' : Hp}, Inv (X.blk s3 H3 scope ce fp) ([] ++ pinsAt fp s7.heap) σ8 H' s' → Nx H' → ∃ m, m < n ∧ ∃ i H', Inv (X.blk s3 H3 scope ce fp) [] (wipe σ (own.map (·.2))) H' s' ∧ tn i s'.heap ∧ (∀ b ∈ fp, H' b = none) ∧ W i m H' := fun {s' H'} I' nx => by
        obtain ⟨m', hm, w'⟩ := hNx H' nx
        have pin' : ∀ b ∈ fp, ∀ o, s7.heap.get? b = some o → s'.heap.get? b = some o ∧ H' b = none := fun b hb o e =>
          let z := I'.pin (b, o) (List.mem_append_right _ (List.mem_append_right _ (mem_pinsAt hb e)))
          ⟨z.1, z.2.1⟩
        have hl : (wipe σ (own.map (·.2))).length = σ8.length := by rw [← hw8, wipe_length]
        refine ⟨m', hm, i + 1, H', (I'.unpinned (pins := [])).weak hl (fun j v e => ?_), T.keep _ _ _ st7 fun b hb o e => (pin' b hb o e).1, fun b hb => ?_, w'⟩
        · rw [← hw8] at e
          exact (wipe_some e).1
        · obtain ⟨o, e, _⟩ := T.obj _ _ st7 b hb
          exact (pin' b hb o e).2
      cases b with
      | false =>
        simp only [Bool.false_eq_true, if_false] at q9 ⊢
        exact fin I9 q9
      | true =>
        simp only [if_true] at q9 ⊢
        refine thnF (pe _ s9 σ8 H9 _ I9 q9) fun z s10 hq9 => ?_
        obtain ⟨yv, H10, I10, r10, acc, hD10, hz10, nx⟩ := hq9
        exact app_ok (X := X.blk s3 H3 scope ce fp) I10 hD10 hz10 r10 fun s11 I11 => fin I11 nx
  exact codeAny_compStart_list loop (T.self X.A 0 _ _ _ st4 loop)
/-- as a value -/
theorem pe_lc {elt tg iter : Expr} {ifs : List Expr} {scope : Scope} {own : List (Str × Nat)} {pos : Pos} {wi : TI} {g : TG} {tt : TT} {te : TE} (hc : X.calm = true) (hN : X.N.Nodup) (hi : PI X tg iter wi) (ok : BlkOk X.N X.env.scope scope own)
    (hg : ∀ (s : Shared) (H : Hp) (C : Addr) (cl : List (Str × Addr)) (fp : List Addr), PG (X.blk s H scope (compEnvC scope cl C X.env) fp) tg g) (ht : ∀ (s : Shared) (H : Hp) (C : Addr) (cl : List (Str × Addr)) (fp : List Addr), PTs (X.blk s H scope (compEnvC scope cl C X.env) fp) ifs tt)
    (he : ∀ (s : Shared) (H : Hp) (C : Addr) (cl : List (Str × Addr)) (fp : List Addr), PE (X.blk s H scope (compEnvC scope cl C X.env) fp) elt te) (hs : ∀ x, foldedSetIterable iter X.env x = pure x := by intro _; rfl) :
    PE X (.ListComp elt [⟨tg, iter, ifs, 0⟩] scope pos) (tLc wi g tt te (own.map (·.2))) := by
  intro pins s σ H Q I h
  rw [eval_ListComp]
  refine lc_core hc hN I hi ok hg ht he hs h fun D C s' m H' I' q hn f => ⟨m, hn, fun h'' sb => ?_⟩
  obtain ⟨f0, f1, f2, f3, f4, f5⟩ := f
  exact ⟨.ref D, H', I'.turned (t' := s'.toks) (fun b o hb e => (sb.2 b hb).trans e) f0 f1 f3 f4 f5, rfl, q⟩
/-- name = [..] on one line, the name a local -/
theorem ps_setLc {i : Nat} {y : Str} {py : Pos} {elt tg iter : Expr} {ifs : List Expr} {scope : Scope} {own : List (Str × Nat)} {pos spos : Pos} {wi : TI} {g : TG} {tt : TT} {te : TE} (hc : X.calm = true) (hN : X.N.Nodup) (hy : X.N[i]? = some y) (hyl : X.env.scope.names.lookup y = some .local)
    (hsw : swapsWith (.ListComp elt [⟨tg, iter, ifs, 0⟩] scope pos) (some (.Name y py)) spos.line X.env = pure true) (hi : PI X tg iter wi) (ok : BlkOk X.N X.env.scope scope own)
    (hg : ∀ (s : Shared) (H : Hp) (C : Addr) (cl : List (Str × Addr)) (fp : List Addr), PG (X.blk s H scope (compEnvC scope cl C X.env) fp) tg g) (ht : ∀ (s : Shared) (H : Hp) (C : Addr) (cl : List (Str × Addr)) (fp : List Addr), PTs (X.blk s H scope (compEnvC scope cl C X.env) fp) ifs tt)
    (he : ∀ (s : Shared) (H : Hp) (C : Addr) (cl : List (Str × Addr)) (fp : List Addr), PE (X.blk s H scope (compEnvC scope cl C X.env) fp) elt te) (hs : ∀ x, foldedSetIterable iter X.env x = pure x := by intro _; rfl) :
    PS X (.Assign [.Name y py] (.ListComp elt [⟨tg, iter, ifs, 0⟩] scope pos) spos) (tAsg (tLc wi g tt te (own.map (·.2))) (gName i)) := by
  intro pins s σ H D I h
  rw [exec_Assign_Name_used _ _ _ _ hsw]
  refine wpAny_bind (wpAny_standAt (wpAny_bind ?_))
  show wpAny _ X.A (do let _ ← comprehension (.ListComp elt [⟨tg, iter, ifs, 0⟩] scope pos) scope X.env (firstIterPos [⟨tg, iter, ifs, 0⟩] pos) (newList []) false (eval iter X.env) (some (assign (.Name y py) X.env))) _ _ s
  have h : tLc wi g tt te (own.map (·.2)) σ H (fun x H1 => gName i x σ H1 D.nx) := h
  refine wpAny_bind (thn (lc_core (Qf := fun _ s' => SP X pins D .next s') hc hN I hi ok hg ht he hs h fun L C s' m H' I' q hn f => ?_) fun _ s' hq => wpAny_pure (wpAny_pure hq))
  show wpAny _ _ (assign (.Name y py) X.env (.ref L)) _ _ _
  refine wpAny_assign_Name (store_ok2 (v := V.ref L) I' hN hy (.inl hyl) rfl (fun s2 I2 hq9 => ?_) (.inr hyl))
  obtain ⟨a, sb, ha⟩ := hq9
  obtain ⟨f0, f1, f2, f3, f4, f5⟩ := f
  have haC : C ≠ a := by
    rcases ha with z | z
    · rw [z]; exact f1
    · exact fun e => f4 y a z e.symm
  refine ⟨m, hn.sameBut sb haC, fun h3 sb3 => ?_⟩
  exact ⟨_, H', I2.turned (t' := s2.toks) (fun b o hb e => (sb3.2 b hb).trans e) f0 f1 f3 f4 f5, q⟩
end

/-! ### the forms one uses -/
/-- over a list that the block leaves as it is -/
theorem lc_list {K : PySem.W.Frag} {a : Addr} {xs : List V} {g : TG} {tt : TT} {te : TE} {vs : List Nat} {σ : St} {H1 : Hp} {D : Addr} {Qd : Hp → Prop} (Pv : Nat → Hp → Prop) (h0 : Pv 0 (upd H1 D (.lst []))) (hl : ∀ i H, i ≤ xs.length → Pv i H → SqL K H a xs)
    (hs : ∀ i x H, xs[i]? = some x → Pv i H → g x (wipe σ vs) H fun σ2 H2 => wipe σ2 vs = wipe σ vs ∧ tt σ2 H2 fun b H3 =>
      if b = true then te σ2 H3 fun y H4 => ∃ acc, H4 D = some (.lst acc) ∧ acc.length < sizeLine ∧ Pv (i + 1) (upd H4 D (.lst (acc ++ [y]))) else Pv (i + 1) H3) (hd : ∀ H, Pv xs.length H → Qd H) :
    ∃ W : Nat → Nat → Hp → Prop, (∃ m, W 0 m (upd H1 D (.lst []))) ∧ ∀ i m H, W i m H →
      ((Itl K a).stop i H ∧ Qd H) ∨ ((Itl K a).go i H ∧ ∃ Nx : Hp → Prop, (∀ H', Nx H' → ∃ m', m' < m ∧ W (i + 1) m' H') ∧ ∀ x H', (Itl K a).yld i H x H' → g x (wipe σ vs) H' fun σ2 H2 => wipe σ2 vs = wipe σ vs ∧ tt σ2 H2 fun b H3 =>
        if b = true then te σ2 H3 fun y H4 => ∃ acc, H4 D = some (.lst acc) ∧ acc.length < sizeLine ∧ Nx (upd H4 D (.lst (acc ++ [y]))) else Nx H3) := by
  refine ⟨fun i m H => m = xs.length - i ∧ i ≤ xs.length ∧ Pv i H, ⟨xs.length, by simp, Nat.zero_le _, h0⟩, ?_⟩
  rintro i m H ⟨rfl, hi, p⟩
  have q := hl i H hi p
  by_cases hlt : i < xs.length
  · refine .inr ⟨⟨xs, xs[i], q, by simp [hlt]⟩, Pv (i + 1), fun H' p' => ⟨xs.length - (i + 1), by omega, rfl, hlt, p'⟩, fun x H' y => ?_⟩
    obtain ⟨e, y⟩ := y
    subst e
    exact hs i x _ (y xs q) p
  · have e : i = xs.length := by omega
    subst e
    exact .inl ⟨⟨xs, q, Nat.le_refl _⟩, hd H p⟩
def blkC (N : List Str) (sc scope : Scope) (own : List (Str × Nat)) : Bool :=
  (match scope.kind with | .function => true | _ => false) && (scope.names.all fun y => decide (scope.names.lookup y.1 = some y.2)) && (own.all fun p => decide (N[p.2]? = some p.1)) &&
    (scope.names.all fun y => match y.2 with
      | .free => (match sc.names.lookup y.1 with | some .cell => true | some .free => true | _ => false)
      | .local => decide (y.1 ∈ own.map (·.1)) || decide (y.1 ∉ N)
      | .cell => decide (y.1 ∈ own.map (·.1)) || decide (y.1 ∉ N)
      | _ => true)
theorem blkOk_by {N : List Str} {sc scope : Scope} {own : List (Str × Nat)} (h : blkC N sc scope own = true) : BlkOk N sc scope own := by
  unfold blkC at h
  simp only [Bool.and_eq_true, List.all_eq_true, decide_eq_true_eq] at h
  obtain ⟨⟨⟨h1, h2⟩, h3⟩, h4⟩ := h
  refine ⟨?_, h2, h3, fun y hy e => ?_, fun y hy e => ?_⟩
  · split at h1
    · assumption
    · cases h1
  · have q := h4 y hy
    simp only [e] at q
    split at q <;> first | exact .inl (by assumption) | exact .inr (by assumption) | cases q
  · have q := h4 y hy
    rcases e with e | e <;> (simp only [e, Bool.or_eq_true, decide_eq_true_eq] at q; exact q)
end L2

namespace L2
open PySem PySem.Spec PyProof.Rows



end L2

namespace L2
open PySem PySem.Spec PyProof.Rows

/-! ### lists of pairs as tables -/


/-! ### a tracked dict, its keys ints and texts or tuples of these -/








/-! ### readings and rules -/





/-! ### displays -/




/-! ### methods -/




/-! ### dict(d): a copy -/


end L2

namespace L2
open PySem PySem.Spec PyProof.Rows



end L2

namespace L2
open PySem PySem.Spec PyProof.Rows


section
variable {X : Cx} {pins : List (Addr × Obj)} {σ : St} {H : Hp} {s : Shared} {h' : Heap}
/-- .. and one new object is laid -/
theorem Inv.turnedNew {t' : Nat} {ch : List Addr} {T : Addr} {ob : HO} (I : Inv X pins σ H s) (k : ∀ b o, b ∉ ch → s.heap.get? b = some o → h'.get? b = some o) (hf : ∀ b ∈ ch, FpOk X pins H b) (hT : s.heap.objs.size ≤ T)
    (new : ObjOk X.prog X.w (upd H T ob) h' T ob) : Inv X pins σ (upd H T ob) { s with heap := h', toks := t' } := by
  have hn : H T = none := I.hok.fresh hT
  have nit : ∀ b u, H b = some u → b ∉ ch := fun b u e z => by
    have q := (hf b z).1
    rw [q] at e; cases e
  refine I.step (g' := s.gens) (d' := s.drawn) (ch := ch) (fun b hb => ⟨(hf b hb).2.2.2.1, (hf b hb).2.1, (hf b hb).2.2.2.2.1, (hf b hb).2.2.2.2.2⟩) (fun b o _ _ hc e _ => k b o hc e) (fun b o _ _ hc e _ => ⟨o.slots, k b o hc e⟩)
    (fun b o _ e n => ?_) (fun b o hc e => ⟨o, k b o hc e⟩) (fun b xs e => ?_) (fun b o u e => ?_) (fun b ps e => ⟨#[], ?_⟩) (fun m hm => ?_) (fun b u e => ?_) I.bare
  · rw [upd_ne (Nat.ne_of_lt (Nat.lt_of_lt_of_le (Heap.lt_size e) hT))]; exact n
  · rw [upd_ne (ne_of_none e hn)]; exact e
  · rw [upd_ne (ne_of_none e hn)]; exact e
  · rw [upd_ne (ne_of_none e hn), e]; simp
  · obtain ⟨o, es, ep, ho, r⟩ := hm
    exact ⟨o, es, ep, k _ o (fun z => (hf _ z).2.1 rfl) ho, r⟩
  · by_cases hb : b = T
    · subst hb
      rw [upd_same] at e
      cases e
      exact new
    · rw [upd_ne hb] at e
      refine (I.hok b u e).stay (fun c v hc q => k c v ?_ q) (fun c q => by rw [upd_ne (ne_of_none q hn)]; exact q) fun c xs q => by rw [upd_ne (ne_of_none q hn)]; exact q
      rcases hc with z | z
      · rw [z]; exact nit b u e
      · exact nit c _ z

/-! ### locking a thing while a statement runs -/
end
section
variable {X : Cx}

/-! ### one iterator just laid -/
theorem pi_one {tg : Expr} {pins : List (Addr × Obj)} {σ : St} {H : Hp} {s : Shared} {R : It → Hp → Prop} {J : It} {tn : Nat → Heap → Prop} {tk : Nat} (I : Inv X pins σ H s) (o : Obj)
    (T : Turn X.prog X.w X.K tg J [s.heap.objs.size] s.heap.objs.size tn) (st : tn 0 (s.heap.push o)) (q : R J H) : PIE X pins σ tg R (.ref s.heap.objs.size) { s with heap := s.heap.push o, toks := tk } := by
  refine ⟨s.heap.objs.size, [s.heap.objs.size], tn, J, H, rfl, I.kept fun b ob e => Heap.get?_push_of_some _ e, T, st, fun b hb => ?_, q⟩
  have e : b = s.heap.objs.size := by simpa using hb
  subst e
  exact I.fpOk (Nat.le_refl _) (I.hok.fresh (Nat.le_refl _))
end

/-! ### range with a step -/

/-! ### reversed(list) -/

/-! ### a str -/
def Its (x : Str) : It := ⟨fun i _ => i < x.cps.size, fun i H v H' => H' = H ∧ ∃ c, x.cps[i]? = some c ∧ v = .str ⟨#[c]⟩, fun i _ => x.cps.size ≤ i⟩
theorem turn_str {P : Program} {w : World} {K : PySem.W.Frag} {tg : Expr} (it : Addr) (x : Str) (t : Tok) (ty : String) (hty : ty = "str_ascii_iterator" ∨ ty = "str_iterator") :
    Turn P w K tg (Its x) [it] it (fun i h => h.IsStrIter it ty x t i) where
  mem := by simp
  obj := fun i h st b hb => by
    have e : b = it := by simpa using hb
    subst e
    obtain ⟨o, e, c, d⟩ := st
    exact ⟨o, e, fun v z => by rw [d] at z; cases z⟩
  keep := fun i h h' st k => let ⟨o, ho, r⟩ := st; ⟨o, k it (by simp) o ho, r⟩
  item := by
    intro X hP hw hK hc i pins s σ H E I hf st hg
    subst hP hw hK
    obtain ⟨f0, f1, f2, f3, f4, f5⟩ := hf it (by simp)
    have W : Walks X.prog X.w X.A it [it] [it] x.cps.size (SignAt x) (fun i h => h.IsStrIter it ty x t i) := by
      rcases hty with e | e
      · rw [e]; exact Walks.strAscii (I.ok.hd hc) it x t
      · rw [e]; exact Walks.strWide (I.ok.hd hc) it x t
    have hno : ["enumerate", "zip", "dict_itemiterator", "dict_reverseitemiterator", "odict_iterator", "itertools.zip_longest", "itertools.pairwise"].contains ty = false := by
      rcases hty with e | e
      · rw [e]; decide
      · rw [e]; decide
    refine W.item i s _ _ hg st fun v h' tk hv st' kk => ?_
    obtain ⟨c, u, hcx, rfl⟩ := hv
    have I1 : Inv X pins σ H { s with heap := h', toks := tk } := I.turned (fun b o hb e => kk b o (by simpa using hb) e) f0 f1 f3 f4 f5
    obtain ⟨oi, e, cc, dd⟩ := id st'
    exact ⟨_, rfl, go_of (s := { s with heap := h', toks := tk }) e cc dd hno ⟨.str ⟨#[c]⟩, H, I1, ⟨u, rfl⟩, ⟨rfl, c, hcx, rfl⟩, st', fun b hb => (hf b hb).1⟩⟩
  done := by
    intro X hP hw hK hc i pins s σ H E I hf st hg
    subst hP hw hK
    obtain ⟨f0, f1, f2, f3, f4, f5⟩ := hf it (by simp)
    have hx : x.cps[i]? = none := Array.getElem?_eq_none hg
    rcases hty with e | e
    · rw [e] at st
      exact wpAny_pyNext_ascii_end (I.ok.hd hc) st hx fun h' eb => ⟨rfl, I.turned (t' := s.toks) (fun b o hb e => eb b o hb e) f0 f1 f3 f4 f5⟩
    · rw [e] at st
      exact wpAny_pyNext_wide_end (I.ok.hd hc) st hx fun h' eb => ⟨rfl, I.turned (t' := s.toks) (fun b o hb e => eb b o hb e) f0 f1 f3 f4 f5⟩
  self := fun A i s Q E st h => by
    rcases hty with e | e
    · rw [e] at st; exact wpAny_pyIter_striter_ascii st h
    · rw [e] at st; exact wpAny_pyIter_striter_wide st h
def iStr (te : TE) : TI := fun σ H R => te σ H fun v H1 => ∃ x, v = .str x ∧ R (Its x) H1
theorem pi_str {X : Cx} {tg e : Expr} {te : TE} (he : PE X e te) : PI X tg e (iStr te) := by
  intro pins s σ H R I h
  refine thn (he pins s σ H _ I h) fun v s1 hq9 => ?_
  obtain ⟨y, H1, I1, r1, x, ex, q⟩ := hq9
  subst ex
  obtain ⟨t, rfl⟩ := r1
  cases ha : x.cps.all (· < 128)
  · exact wpAny_pyIter_wide ha (pi_one (tk := s1.toks) I1 _ (turn_str _ x t "str_iterator" (.inr rfl)) ⟨_, Heap.get?_push_size _ rfl, rfl, rfl⟩ q)
  · exact wpAny_pyIter_ascii ha (pi_one (tk := s1.toks) I1 _ (turn_str _ x t "str_ascii_iterator" (.inl rfl)) ⟨_, Heap.get?_push_size _ rfl, rfl, rfl⟩ q)

/-! ### a dict's keys: any dict's entries -/

/-! ### a locked dict -/


/-! ### for k in d, d.keys(), d.values(), d.items() -/

/-! ### enumerate(list) -/
/-! ### zip(list, list) -/
end L2

section 
namespace Bits
open PySem PyProof.Rows








end Bits
end 

section 
namespace TL
open PySem PySem.Builtin PySem.Builtin.Str PySem.StrLaws

abbrev tl (x : Str) : List Nat := x.cps.toList
theorem len_tl (x : Str) : x.length = (tl x).length := by simp [tl, Str.length]
theorem tl_append (x y : Str) : tl (x ++ y) = tl x ++ tl y := by
  show (x ++ y).cps.toList = _
  rw [Str.cps_append, Array.toList_append]

/-! ### the list functions -/




/-! ### the model's split and partition are these -/




/-! ### computing spl and par -/

/-- joined lists -/
def joinL (S : List Nat) : List (List Nat) → List Nat
  | [] => []
  | [p] => p
  | p :: q :: r => p ++ (S ++ joinL S (q :: r))
theorem tl_join (y : Str) : ∀ parts : List Str, tl (Str.join y parts) = joinL (tl y) (parts.map tl)
  | [] => rfl
  | [_] => rfl
  | x :: z :: r => by
    show tl (x ++ y ++ Str.join y (z :: r)) = tl x ++ (tl y ++ joinL (tl y) ((z :: r).map tl))
    rw [tl_append, tl_append, tl_join y (z :: r), List.append_assoc]
theorem join_eq (y : Str) (parts : List Str) : Txt.join y parts = Str.join y parts := glued_eq_join y parts

/-! ### digits -/

/-! ### words: x.split() -/
end TL
end 

namespace L2
open PySem PySem.Spec PyProof.Rows


theorem strs_of_vals : ∀ {ys : List Str} {us : List Value}, Vals (ys.map V.str) us → StrsAre us ys
  | [], _, .nil => .nil
  | y :: ys, _, .cons r t => by
    obtain ⟨k, rfl⟩ := r
    exact .cons y k (strs_of_vals t)



section
variable {X : Cx}




/-- sep.join(a list | a tuple of texts) -/
theorem mt_join : MtR X "str.join" (fun x xs H Q => ∃ a p, ∃ ys : List Str, x = .str a ∧ xs = [.ref p] ∧ (SqL X.K H p (ys.map V.str) ∨ SqT X.K H p (ys.map V.str)) ∧
    (ys.map (·.length)).sum + ys.length * a.length ≤ 16777216 ∧ Q (.str (Txt.join a ys)) H) := by
  intro pins s σ H x xs v us Q I rx rs h
  obtain ⟨a, p, ys, rfl, rfl, hp, hz, h⟩ := h
  obtain ⟨t, rfl⟩ := rx
  cases rs with
  | cons r1 rs =>
    cases rs
    cases r1
    rcases hp with hp | hp
    · obtain ⟨its, r, ⟨o, n, ho, hc, _, hd⟩, _⟩ := I.list hp
      exact PyProof.Rows.join_list (items := its.toArray) ⟨o, ho, hc, n, hd⟩ (by rw [List.toList_toArray]; exact strs_of_vals r) hz fun t' k => ⟨.str _, H, I.tok k, ⟨t', rfl⟩, h⟩
    · obtain ⟨its, r, ht, _⟩ := I.tuple hp
      exact PyProof.Rows.join_tuple (items := its.toArray) ht (by rw [List.toList_toArray]; exact strs_of_vals r) hz fun t' k => ⟨.str _, H, I.tok k, ⟨t', rfl⟩, h⟩

/-! ### of a text alone -/

/-! ### of a text and a text -/

end

section
variable {X : Cx} {o e : Expr} {to te : TE}
def tM1 (r : V → List V → Hp → VK → Prop) (to te : TE) : TE := fun σ H Q => to σ H fun x H1 => (∃ a, x = .str a) ∧ te σ H1 fun y H2 => r x [y] H2 Q
theorem pe_m1 {id : String} {name : Str} {apos pos : Pos} {r : V → List V → Hp → VK → Prop} (slot : Slot "str" name id) (ty : typeOf (.builtin id) = pure (.type "method_descriptor")) (rule : MtR X id r) (ho : PE X o to) (he : PE X e te)
    (hs : starEach [e] X.env = [(false, eval e X.env)] := by rfl) (hbase : attributeBase o name X.env (eval o X.env) = eval o X.env := by rfl) (hline : (apos.endLine == pos.line) = true := by rfl) :
    PE X (.Call (.Attribute o name apos) [e] [] pos) (tM1 r to te) := by
  intro pins s σ H Q I h
  refine PySem.Call_method1 hbase hs hline (thn (ho pins s σ H _ I h) fun v s1 hq9 => ?_)
  obtain ⟨x, H1, I1, r1, q1⟩ := hq9
  obtain ⟨⟨a, rfl⟩, q1⟩ := q1
  obtain ⟨t, rfl⟩ := _root_.id r1
  refine ⟨"str", _, F.plainAttrs_str, slot, ty, typeIs_str _ _ _, (fun _ e => nomatch e), Calls.callWith_builtin rfl (Calls.evalArgs_plain (Calls.spliced_cons ?_))⟩
  exact thn (he pins s1 σ H1 _ I1 q1) fun u s2 ⟨y, H2, I2, r2, q2⟩ => Calls.spliced_nil (rule pins s2 σ H2 _ [y] _ [u] Q I2 r1 (.cons r2 .nil) q2)

theorem pe_join {apos pos : Pos} (ho : PE X o to) (he : PE X e te) (hs : starEach [e] X.env = [(false, eval e X.env)] := by rfl) (hbase : attributeBase o "join" X.env (eval o X.env) = eval o X.env := by rfl) (hline : (apos.endLine == pos.line) = true := by rfl) :
    PE X (.Call (.Attribute o "join" apos) [e] [] pos) (tM1 (fun x xs H Q => ∃ a p, ∃ ys : List Str, x = .str a ∧ xs = [.ref p] ∧ (SqL X.K H p (ys.map V.str) ∨ SqT X.K H p (ys.map V.str)) ∧
      (ys.map (·.length)).sum + ys.length * a.length ≤ 16777216 ∧ Q (.str (Txt.join a ys)) H) to te) :=
  pe_m1 F.slot_str_join F.type_str_join mt_join ho he hs hbase hline
end
end L2

namespace L2
open PySem PySem.Spec PyProof.Rows


/-! ### slices of a text -/


end L2

namespace Att
open PySem PySem.W PySem.Calls PyProof.Rows

/-! ### the script -/



/-! ### the attachment: holds_open's last premise (the goal 'hc' behind k_head) from a wpAny of the law's body -/



/-! ### rules over ANY heap (no ledger) from facts about the written part K: the library's own take a ledger (News) for what they write -/
section
variable {prog : Program} {w : World} {A : Around} {E : Value → Shared → Prop} {s : Shared} {K : Frag}





/-! the whole heap as the ledger: makes every rule that writes through a ledger a rule over any heap -/

end
end Att

namespace L2
open PySem PySem.Spec PyProof.Rows

theorem vals_ints : ∀ {vs : List Value} {ns : List Int}, IntsAre vs ns → Vals (ns.map V.int) vs
  | _, _, .nil => .nil
  | _, _, .cons n t h => .cons ⟨t, rfl⟩ (vals_ints h)


end L2

namespace L2
open PySem PySem.Spec PyProof.Rows

abbrev KOf {K : PySem.W.Frag} {h : Heap} (_ : K.In h) : PySem.W.Frag := K

end L2

/- THE LAST THEOREM (shape; LID, My.* are yours):
   My.Adr: a structure of the addresses that your layer names (classes, functions); My.Txt K t: a structure (Prop) of the equations over K;
   My.txt_mk : {K} {implicit addresses ..} (e1 : nsIn K mainGlobals "law" = some (some (.ref f))) (e2 : K.lookup f = some ⟨oc, od, .func (fnOf "law" "law" params body scope dV kV doc pm an cdv ct), sl⟩) (e3 : codeIn K cdv "law" = true) .. : ∃ t, My.Txt K t

set_option maxRecDepth 100000 in
set_option maxHeartbeats 0 in
theorem PySem.Challenge.cw_LID_holds : PySem.Challenge.rw_LID.Holds := by
  w_on; o_law; k_head; (case hw => w_witness2)
  k_fill
  refine L2.walk_of (l := PySem.Challenge.rw_LID) (n := 63) (k := 40) (x := "script") (CX := fun w => ..) (sp := fun _ => My.sp_law) rfl (by decide) rfl ⟨rfl, by decide, by decide⟩ (fun w h Y => PySem.W.kIn_of Y) ?F ?S ?C
  case F =>
    intro w mg fa h KX G hmg
    have T : ∃ t, My.Txt (L2.KOf KX) t := by
      dsimp only [L2.KOf]                          -- K must stand as «<heap const> w.params» for k_is
      refine' My.txt_mk ?e1 ?e2 ?e3 ..
      (case e1 => PySem.W.k_is)                    -- in the order: a name -> its address -> its object -> its parts
      (case e2 => PySem.W.k_is)
      ..
    obtain ⟨t, T⟩ := T
    have e0 := hmg.symm.trans (PySem.W.mg_of KX G T.law)
    cases e0                                       -- fa is the law's own address
    exact ⟨_, fun s u => .of_eq rfl, fun base kb nb => My.law_fn T kb nb⟩     -- if «.of_eq rfl» comes too early: refine' ⟨_, ?b, fun base kb nb => My.law_fn T kb nb⟩; exact fun s u => .of_eq rfl
  case S => exact fun w H a ns hl hO hS => ..
  case C => exact ..
(the tactic k_is has no namespace: write k_is) -/

/-! SHORT WORDS over the layer: a def of the text, its body, what a loop and a test want. -/
namespace L2
open PySem PySem.Spec PyProof.Rows

/-! ### the text by places -/
/-- the j-th statement of a class's body -/
def inClass (s : Stmt) (j : Nat) : Stmt := match s with
  | .ClassDef _ _ _ body _ _ _ _ _ _ _ => body.getD j (.Pass ⟨0, 0, 0, 0⟩)
  | _ => .Pass ⟨0, 0, 0, 0⟩
def defArgs (s : Stmt) : Arguments := match s with
  | .FunctionDef _ a _ _ _ _ _ _ _ _ => a
  | _ => { posonlyargs := [], args := [], vararg := none, kwonlyargs := [], kw_defaults := [], kwarg := none, defaults := [] }
def defBody (s : Stmt) : List Stmt := match s with
  | .FunctionDef _ _ b _ _ _ _ _ _ _ => b
  | _ => []
def defScope (s : Stmt) : Scope := match s with
  | .FunctionDef _ _ _ _ _ _ sc _ _ _ => sc
  | _ => { kind := .function, names := [], isGenerator := false, isCoroutine := false }

/-! ### no exception leaves a def -/
abbrev CX0 : CXT := fun _ _ _ _ _ _ => False
abbrev E0 : XK := fun _ _ _ => False
theorem pass0 {X : Cx} : Passes CX0 X E0 := fun _ _ _ _ _ _ _ h => h.elim

/-! ### a def (or method) of the text as it stands behind the top -/
structure Fun (K : PySem.W.Frag) (x qual : Str) (st : Stmt) (f : Addr) (fd : FuncData) : Prop where
  ex : ∃ (oc : Value) (od : Option Addr) (kV doc pm : Value) (an : Option Addr) (cdv ct : Value) (osl : Array (Option Value)),
    fd = PySem.W.fnOf x qual (defArgs st) (defBody st) (defScope st) .none kV doc pm an cdv ct ∧ K.lookup f = some ⟨oc, od, .func fd, osl⟩ ∧ PySem.W.codeIn K cdv qual = true
  kp : PySem.W.keepIn K (.ref f) = true
section
variable {P : Program} {w : World} {K : PySem.W.Frag} {mg : Str → Option Value} {base : Heap}
/-- THE RULE for a def: its body as a term of rules, and the reading of that term -/
theorem Fun.ok {x qual : Str} {st : Stmt} {f : Addr} {fd : FuncData} {N ps : List Str} {k : Nat} {sp : Sp} (F : Fun K x qual st f fd) (S : FnScope N ps (defScope st)) (len : ∀ vs H Q E, sp vs H Q E → vs.length = ps.length)
    (hbody : ∀ (cdv : Value) (A : Around) (outer : List Env) (s : Shared) (H : Hp) (vs : List V) (Q : VK) (E : XK), Room k (A.deeper (envOfC qual (defScope st) s.heap.objs.size f cdv)) → sp vs H Q E →
      ∃ t, PSs (cxOf CX0 P w K mg base N qual (defScope st) f cdv A outer s H E).nox (defBody st) t ∧ t { nx := fun _ H' => Q .non H', rt := Q } (start N vs) H) : FnOk P w K mg base CX0 (k + 1) f fd ps sp := by
  obtain ⟨oc, od, kV, doc, pm, an, cdv, ct, osl, rfl, lk, hcd⟩ := F.ex
  refine fn_of lk hcd S len fun A outer s H vs Q E hr hsp => ?_
  obtain ⟨t, h, q⟩ := hbody cdv A outer s H vs Q E hr hsp
  exact ⟨t, h.nox, q⟩
/-- how its arguments bind (no defaults): h is «fun _ _ _ _ _ _ us hl => match us, hl with | [_, _], _ => rfl», one _ a parameter -/
theorem Fun.binds {x qual : Str} {st : Stmt} {f : Addr} {fd : FuncData} {ps : List Str} (F : Fun K x qual st f fd)
    (h : ∀ (kV doc pm : Value) (an : Option Addr) (cdv ct : Value) (us : List Value), us.length = ps.length → bindArgs (PySem.W.fnOf x qual (defArgs st) (defBody st) (defScope st) .none kV doc pm an cdv ct) ⟨us, []⟩ = pure (ps.zip us)) : Binds K fd ps [] := by
  obtain ⟨oc, od, kV, doc, pm, an, cdv, ct, osl, rfl, lk, hcd⟩ := F.ex
  exact .all (h kV doc pm an cdv ct)
theorem fun_mk {x qual : Str} {st : Stmt} {f : Addr} {oc : Value} {od an : Option Addr} {osl : Array (Option Value)} {kV doc pm cdv ct : Value} (l : K.lookup f = some ⟨oc, od, .func (PySem.W.fnOf x qual (defArgs st) (defBody st) (defScope st) .none kV doc pm an cdv ct), osl⟩)
    (c : PySem.W.codeIn K cdv qual = true) (k : PySem.W.keepIn K (.ref f) = true) : Fun K x qual st f (PySem.W.fnOf x qual (defArgs st) (defBody st) (defScope st) .none kV doc pm an cdv ct) := ⟨⟨oc, od, kV, doc, pm, an, cdv, ct, osl, rfl, l, c⟩, k⟩
end

/-! ### expressions in short: the name that stands in the i-th slot -/
section
variable {X : Cx}
theorem pv (i : Nat) {x : Str} {pos : Pos} (hN : X.N[i]? = some x := by rfl) (hv : Vis X.env.scope x := by first | exact Or.inl rfl | exact Or.inr (Or.inl rfl) | exact Or.inr (Or.inr rfl)) (hd : (x == ("__debug__" : Str)) = false := by decide)
    (hcd : (x == ("__classdict__" : Str)) = false := by decide) : PE X (.Name x pos) (tVar i) := pe_var hN hv hd hcd
end

/-! ### tests -/
theorem iteF {A B : Prop} (h : B) : if false = true then A else B := by
  rw [if_neg Bool.false_ne_true]
  exact h
theorem iteT {A B : Prop} (h : A) : if true = true then A else B := by
  rw [if_pos rfl]
  exact h
theorem ite2 {c A B : Prop} [Decidable c] (h1 : c → A) (h2 : ¬ c → B) : if c then A else B := by
  by_cases h : c
  · rw [if_pos h]
    exact h1 h
  · rw [if_neg h]
    exact h2 h

/-! ### heaps -/
/-- all that was tracked is as it was -/
def Same (H H' : Hp) : Prop := ∀ b o, H b = some o → H' b = some o
theorem Same.trans {H H1 H2 : Hp} (a : Same H H1) (b : Same H1 H2) : Same H H2 := fun c o h => b c o (a c o h)
theorem Same.seq {K : PySem.W.Frag} {H H' : Hp} {a : Addr} {xs : List V} (e : Same H H') (h : SqL K H a xs) : SqL K H' a xs := by
  rcases h with (h | ⟨o, h⟩) | h
  · exact .inl (.inl (e _ _ h))
  · exact .inl (.inr ⟨o, e _ _ h⟩)
  · exact .inr h

/-! ### a dict's pairs: keys that differ -/
/-! ### lists -/
theorem at_of {xs : List V} {z : Int} {j : Nat} {v : V} (e : z = (j : Int)) (h : xs[j]? = some v) : atI xs z = some v := by
  rw [e]
  exact atI_nat h
end L2
set_option maxRecDepth 100000
set_option maxHeartbeats 4000000
namespace L2
open PySem PySem.Spec PyProof.Rows

/-! ### the head of a specification's row, by a def's promise -/
/-- a list that is handed in: where it stands, its items, its numbers -/
abbrev LArg := Addr × List Value × List Int
def trackL (K : PySem.W.Frag) (ls : List LArg) : Hp := fun b => match K.lookup b with
  | some _ => none
  | none => (ls.find? fun l => l.1 == b).map fun l => .frz { cls := .type "list", data := .seq l.2.1.toArray } (.lst (l.2.2.map V.int))
/-- the answer: a list of whole numbers -/
def Ans (ans : List Int) : VK := fun v H => ∃ p, v = .ref p ∧ SqL [] H p (ans.map V.int)

theorem reads_ints {R : PySem.W.WRecords} {cl : Str → Option Addr} {h : Heap} : ∀ {ns : List Int} {us : List Value}, Vals (ns.map V.int) us → PySem.W.ReadsAllW R cl h us (ns.map PySem.W.WData.int) []
  | [], us, r => by cases r; exact .nil
  | n :: ns, us, r => by
    cases r with
    | cons r1 r2 =>
      obtain ⟨t, rfl⟩ := r1
      exact .cons (.int n t) (reads_ints r2)

end L2
set_option maxRecDepth 100000
namespace XF
open PySem

/-- an exception under way: its object, its class, its dict; its newest entry, if there is one, is of no running frame, and lies at a place of which P is true -/
def Up (h : Heap) (e : Addr) (c : Value) (d : Option Addr) (P : Addr → Prop) : Prop :=
  ∃ oe vs, h.get? e = some oe ∧ oe.cls = c ∧ oe.dict = d ∧ oe.data = .fields vs ∧
    (vs[1]? = some .none ∨ ∃ T oT ts, vs[1]? = some (.ref T) ∧ P T ∧ T ≠ e ∧ h.get? T = some oT ∧ oT.data = .fields ts ∧ ts[3]? = some .none)
theorem Up.mono {h : Heap} {e : Addr} {c : Value} {d : Option Addr} {P P' : Addr → Prop} (u : Up h e c d P) (f : ∀ T, P T → P' T) : Up h e c d P' := by
  obtain ⟨oe, vs, a, b, c, d, u⟩ := u
  refine ⟨oe, vs, a, b, c, d, u.imp (fun z => z) ?_⟩
  rintro ⟨T, oT, ts, h1, h2, r⟩
  exact ⟨T, oT, ts, h1, f T h2, r⟩

theorem dict_mapFields (o : Obj) (f : Array Value → Array Value) : (o.mapFields f).dict = o.dict := by
  obtain ⟨_, _, dt, _⟩ := o
  cases dt <;> rfl

section
variable {M : Model} {A : Around} {E : Value → Shared → Prop} {s : Shared}
/-- what changes where a frame notes an exception: the frames' slots, the exception's own record, one entry more -/
structure Noted (S : List Addr) (e : Addr) (c : Value) (d : Option Addr) (fl : Value) (h h' : Heap) : Prop where
  kept : ∀ b o, h.get? b = some o → b ∉ S → b ≠ e → h'.get? b = some o
  slot : ∀ b o, h.get? b = some o → b ∈ S → ∃ sl, h'.get? b = some { o with slots := sl }
  up : ∃ oe vs T oT ts, h'.get? e = some oe ∧ oe.cls = c ∧ oe.dict = d ∧ oe.data = .fields vs ∧ vs[1]? = some (.ref T) ∧ h.objs.size ≤ T ∧ T ≠ e ∧ h'.get? T = some oT ∧ oT.data = .fields ts ∧ ts[3]? = some fl
theorem entry_noted {base : Heap} {env : Env} {outer : List Env} {L e : Addr} {oe : Obj} {vs : Array Value} {hd0 : Value} {hn : Bool} {Q : Unit → Shared → Prop}
    (fr : A.frames = some (env :: outer)) (ff : s.heap.FunFrames base (env :: outer)) (lf : env.frame = some L) (oeq : s.heap.get? e = some oe) (dq : oe.data = .fields vs) (sz : 1 < vs.size)
    (k : ∀ h', Noted ((env :: outer).filterMap (·.frame)) e oe.cls oe.dict (rawInt L) s.heap h' → Q () { s with heap := h' }) :
    wpAny M A (do let fo ← frameOf env; let pl ← entryPlaceOf L hn; let en ← EntryCells.newEntry hd0 fo .none (rawInt L) .none pl; setField (.ref e) 1 en) Q E s := by
  have eS : e ∉ (env :: outer).filterMap (·.frame) := by
    intro m
    obtain ⟨_, ob, hob, nf⟩ := ff.mem m
    rw [oeq] at hob
    cases hob
    exact nf vs dq
  refine wpAny_bind (wpAny_frameOf_fun fr ff lf (fun g sg => wpAny_bind (wpAny_entryPlaceOf (fun pl ip => ?_))))
  unfold EntryCells.newEntry; unfold newFields
  refine wpAny_bind (wpAny_newObj_type ?_ (ip.sizeOk5 _ _ _ _ _))
  have ge : g.get? e = some oe := by rw [sg.2.1 e eS]; exact oeq
  have pe := Heap.get?_push_of_some (h := g) { cls := .type "traceback", dict := none, data := .fields ([hd0, .ref L, .none, rawInt L, .none] ++ (if pl.isEmpty then List.replicate 6 Value.none else pl)).toArray } ge
  refine wpAny_setField pe dq sz (k _ ?_)
  have gs : g.objs.size = s.heap.objs.size := sg.1
  have Te : g.objs.size ≠ e := fun z => absurd (Heap.lt_size ge) (by rw [z]; exact Nat.lt_irrefl _)
  have dq' := Obj.data_mapFields dq (·.setIfInBounds 1 (Value.ref g.objs.size))
  have keepIt : ∀ b o, b ≠ e → g.get? b = some o → ((g.push { cls := .type "traceback", dict := none, data := .fields ([hd0, .ref L, .none, rawInt L, .none] ++ (if pl.isEmpty then List.replicate 6 Value.none else pl)).toArray }).update e
      (Obj.mapFields (·.setIfInBounds 1 (Value.ref g.objs.size)))).get? b = some o := by
    intro b o ne q
    rw [Heap.get?_update_other _ _ (fun z => ne z.symm)]
    exact Heap.get?_push_of_some _ q
  refine ⟨fun b o q nS ne => keepIt b o ne ((sg.2.1 b nS).trans q), fun b o q mS => ?_, ?_⟩
  · obtain ⟨sl, q'⟩ := sg.2.2 b o q
    exact ⟨sl, keepIt b _ (fun z => eS (z ▸ mS)) q'⟩
  · refine ⟨_, _, g.objs.size, _, _, Heap.get?_update_self _ pe (Obj.isFreed_of_fields dq'), Obj.cls_mapFields _ _, dict_mapFields _ _, dq', by simp [sz], by rw [gs]; exact Nat.le_refl _, Te,
      (Heap.get?_update_other _ _ (fun z => Te z.symm)).trans (Heap.get?_push_size g rfl), rfl, ?_⟩
    first | (simp; done) | (rcases ip with rfl | ⟨_, _, _, _, _, _, _, rfl⟩ <;> simp)

theorem note_up {base : Heap} {env : Env} {outer : List Env} {L e : Addr} {c : Value} {d : Option Addr} {P : Addr → Prop} {Q : Unit → Shared → Prop}
    (fr : A.frames = some (env :: outer)) (ff : s.heap.FunFrames base (env :: outer)) (lf : env.frame = some L) (U : Up s.heap e c d P)
    (k : ∀ h', (∀ b o, s.heap.get? b = some o → b ∉ (env :: outer).filterMap (·.frame) → b ≠ e → ¬ P b → h'.get? b = some o) →
      (∀ b o, s.heap.get? b = some o → b ∈ (env :: outer).filterMap (·.frame) → ∃ sl, h'.get? b = some { o with slots := sl }) →
      (∃ oe vs T oT ts, h'.get? e = some oe ∧ oe.cls = c ∧ oe.dict = d ∧ oe.data = .fields vs ∧ vs[1]? = some (.ref T) ∧ s.heap.objs.size ≤ T ∧ T ≠ e ∧ h'.get? T = some oT ∧ oT.data = .fields ts ∧ ts[3]? = some (rawInt L)) → Q () { s with heap := h' }) :
    wpAny M A (noteFrame (.ref e) env) Q E s := by
  obtain ⟨oe, vs, oeq, rfl, rfl, dq, w⟩ := U
  unfold noteFrame
  simp only [lf]
  rcases w with v1 | ⟨T, oT, ts, v1, pT, Te, qT, dT, t3⟩
  · refine wpAny_bind (wpAny_field oeq dq v1 ?_)
    rw [if_neg (by decide)]
    exact entry_noted fr ff lf oeq dq (Array.getElem?_eq_some_iff.mp v1).1 fun h' n => k h' (fun b o q nS ne _ => n.kept b o q nS ne) n.slot n.up
  · refine wpAny_bind (wpAny_field oeq dq v1 ?_)
    rw [if_pos (by simp)]
    refine wpAny_bind (wpAny_field qT dT t3 ?_)
    rw [if_neg (by simp [rawInt])]
    refine wpAny_bind (wpAny_setField qT dT (Array.getElem?_eq_some_iff.mp t3).1 ?_)
    have oth : ∀ b, b ≠ T → (s.heap.update T (Obj.mapFields (·.setIfInBounds 3 Value.none))).get? b = s.heap.get? b := fun b ne => Heap.get?_update_other _ _ fun z => ne z.symm
    have noT : ∀ b o, s.heap.get? b = some o → (∀ ws, o.data ≠ .fields ws) → b ≠ T := by
      rintro b o q nf rfl
      rw [qT] at q
      cases q
      exact nf ts dT
    refine entry_noted (s := { s with heap := s.heap.update T (Obj.mapFields (·.setIfInBounds 3 Value.none)) }) fr (ff.of_keeps fun b o q nf => ⟨o, (oth b (noT b o q nf)).trans q, rfl⟩) lf ((oth e (fun z => Te z.symm)).trans oeq) dq
      (Array.getElem?_eq_some_iff.mp v1).1 fun h' n => k h' (fun b o q nS ne nP => n.kept b o ((oth b (fun z => nP (z ▸ pT))).trans q) nS ne) (fun b o q mS => n.slot b o ((oth b ?_).trans q) mS) ?_
    · obtain ⟨_, ob, hob, nf⟩ := ff.mem mS
      rw [q] at hob
      cases hob
      exact noT b o q nf
    · obtain ⟨a1, a2, a3, a4, a5, b1, b2, b3, b4, b5, b6, b7⟩ := n.up
      have z : (s.heap.update T (Obj.mapFields (·.setIfInBounds 3 Value.none))).objs.size = s.heap.objs.size := Heap.size_after_update ..
      exact ⟨a1, a2, a3, a4, a5, b1, b2, b3, b4, b5, by rw [← z]; exact b6, b7⟩

/-- the exception's entry is of no frame any more -/
theorem land_up {e : Addr} {c : Value} {d : Option Addr} {fl : Value} {P : Addr → Prop} {Q : Unit → Shared → Prop}
    (U : ∃ oe vs T oT ts, s.heap.get? e = some oe ∧ oe.cls = c ∧ oe.dict = d ∧ oe.data = .fields vs ∧ vs[1]? = some (.ref T) ∧ P T ∧ T ≠ e ∧ s.heap.get? T = some oT ∧ oT.data = .fields ts ∧ ts[3]? = some fl)
    (k : ∀ h', (∀ b o, s.heap.get? b = some o → ¬ P b → h'.get? b = some o) → h'.objs.size = s.heap.objs.size → (∀ b o, s.heap.get? b = some o → (∀ ws, o.data ≠ .fields ws) → h'.get? b = some o) → Up h' e c d P →
      (∃ oe vs, h'.get? e = some oe ∧ oe.cls = c ∧ oe.dict = d ∧ oe.data = .fields vs) → Q () { s with heap := h' }) :
    wpAny M A (setFlight (.ref e) none) Q E s := by
  obtain ⟨oe, vs, T, oT, ts, oeq, cq, dd, dq, v1, pT, Te, qT, dT, t3⟩ := U
  have sz : 3 < ts.size := (Array.getElem?_eq_some_iff.mp t3).1
  unfold setFlight
  refine wpAny_bind (wpAny_field oeq dq v1 ?_)
  rw [if_pos (by simp)]
  have oth : ∀ b, b ≠ T → (s.heap.update T (Obj.mapFields (·.setIfInBounds 3 ((none : Option Addr).elim Value.none fun f => rawInt f)))).get? b = s.heap.get? b := fun b ne => Heap.get?_update_other _ _ fun z => ne z.symm
  refine wpAny_setField qT dT sz (k _ (fun b o q nP => (oth b (fun z => nP (z ▸ pT))).trans q) (Heap.size_after_update ..) (fun b o q nf => (oth b ?_).trans q) ?_ ?_)
  · rintro rfl
    rw [qT] at q
    cases q
    exact nf ts dT
  · exact ⟨oe, vs, (oth e (fun z => Te z.symm)).trans oeq, cq, dd, dq, .inr ⟨T, _, _, v1, pT, Te, Heap.get?_update_self _ qT (Obj.isFreed_of_fields (Obj.data_mapFields dT _)), Obj.data_mapFields dT _, by simp [sz]⟩⟩
  · exact ⟨oe, vs, (oth e (fun z => Te z.symm)).trans oeq, cq, dd, dq⟩

theorem leave_up {base : Heap} {env : Env} {outer : List Env} {L e : Addr} {c : Value} {d : Option Addr} {P : Addr → Prop} {Q : Unit → Shared → Prop}
    (fr : A.frames = some (env :: outer)) (ff : s.heap.FunFrames base (env :: outer)) (lf : env.frame = some L) (U : Up s.heap e c d P)
    (k : ∀ h', (∀ b o, s.heap.get? b = some o → b ∉ (env :: outer).filterMap (·.frame) → b ≠ e → ¬ P b → h'.get? b = some o) →
      (∀ b o, s.heap.get? b = some o → b ∈ (env :: outer).filterMap (·.frame) → ∃ sl, h'.get? b = some { o with slots := sl }) → Up h' e c d (fun T => s.heap.objs.size ≤ T) → Q () { s with heap := h' }) :
    wpAny M A (leaving env (.ref e)) Q E s := by
  unfold leaving
  refine wpAny_bind (note_up fr ff lf U fun g k1 k2 u => ?_)
  refine land_up (s := { s with heap := g }) (P := fun T => s.heap.objs.size ≤ T) u fun g' l1 _ l2 l3 _ => k g' (fun b o q nS ne nP => l1 b o (k1 b o q nS ne nP) (Nat.not_le.mpr (Heap.lt_size q))) (fun b o q mS => ?_) l3
  obtain ⟨sl, q'⟩ := k2 b o q mS
  exact ⟨sl, l1 b _ q' (Nat.not_le.mpr (Heap.lt_size q))⟩
end
end XF
set_option maxRecDepth 100000
namespace XF
open PySem
open Sem (wp)

section
variable {prog : Program} {w : World} {A : Around} {E : Value → Shared → Prop} {h : Heap} {g : Array GenState} {d : Drawn} {t : Nat} {os : OsState}
variable {nm q : Str} {C N x dx : Addr} {bs bm : List Value} {sn : List Str} {sub : List Value} {ab : Bool} {col : Option Bool} {dd : Option Addr} {k0 k1 k2 k3 k5 : Option Value} {B newId : String}
  {mN mA : Str → Option Value} {name : Str} {v : Value} {o : Obj} {vs : Array Value}



end
end XF
set_option maxRecDepth 100000
namespace XF
open PySem
open Sem (wp)
/-- an exception's object as it is made, its dict as it may be -/
abbrev excObj (C t : Addr) (dx : Option Addr) : Obj := { cls := .ref C, dict := dx, data := .fields #[.ref t, .none, .none, .none, .bool false, .none] }
section
variable {M : Model} {A : Around} {E : Value → Shared → Prop} {s : Shared} {env : Env}
variable {nm q : Str} {C N : Addr} {bs bm : List Value} {hdct : Bool} {sn : List Str} {sub : List Value} {ab : Bool} {col : Option Bool} {dd : Option Addr} {k0 k1 k2 k3 k5 : Option Value} {newId : String}
theorem xraise_stmt {x : Sem Value} {Q : Flow → Shared → Prop} (hbase : bm.contains (.type "BaseException") = true) (hh : A.handled = none)
    (h : wpAny M A x (fun v s₁ => ∃ e t dx, v = .ref e ∧ s₁.heap.get? C = some (excClassObj nm q C N bs bm hdct sn sub ab col dd k0 k1 k2 k3 k5 newId) ∧ s₁.heap.get? e = some (excObj C t dx) ∧ E (.ref e) s₁) E s) :
    wpAny M A (raiseStmt env (some x) none) Q E s := by
  have isB : (Value.ref C :: bm).contains (.type "BaseException") = true := by rw [List.contains_cons, hbase, Bool.or_true]
  unfold raiseStmt
  refine wpAny_bind (wpAny_mono h (fun v s₁ z => ?_) fun _ _ y => y)
  obtain ⟨e, t, dx, rfl, hC, he, hE⟩ := z
  obtain ⟨hp, g, d, tk, os⟩ := s₁
  repeat (first | with_reducible refine wpAny_loadPart_at he ?_ | with_reducible refine wpAny_loadPart_at hC ?_ | (with_reducible refine wpAny_isSubtype_exc hC ?_; rw [isB]) | wp_step)
  exact wpAny_raiseNew_none hh hE
theorem xraise {x : Expr} {pos : Pos} {Q : Flow → Shared → Prop} (hbase : bm.contains (.type "BaseException") = true) (hh : A.handled = none)
    (h : wpAny M A (eval x env) (fun v s₁ => ∃ e t dx, v = .ref e ∧ s₁.heap.get? C = some (excClassObj nm q C N bs bm hdct sn sub ab col dd k0 k1 k2 k3 k5 newId) ∧ s₁.heap.get? e = some (excObj C t dx) ∧ E (.ref e) s₁) E s) :
    wpAny M A (exec (.Raise (some x) none pos) env) Q E s := by
  rw [arm_exec_Raise]
  have e9 : evalOpt (some x) env = some (eval x env) := rfl
  rw [e9]
  dsimp only [Option.map]
  exact wpAny_bind (wpAny_standAt (xraise_stmt hbase hh (wpAny_bind (wpAny_mono h (fun v s₁ z => wpAny_bind (wpAny_standAt (wpAny_pure z))) fun _ _ y => y))))
end
end XF
set_option maxRecDepth 100000
namespace XF
open PySem
open Sem (wp)
open Builtin Builtin.ObjectAttr
section
variable {prog : Program} {w : World} {A : Around} {E : Value → Shared → Prop} {h : Heap} {g : Array GenState} {d : Drawn} {t : Nat} {os : OsState}
variable {nm q : Str} {C N x : Addr} {bs bm : List Value} {sn : List Str} {sub : List Value} {ab : Bool} {col : Option Bool} {dd : Option Addr} {k0 k1 k2 k3 k5 : Option Value} {B newId sa owner : String}
  {mN : Str → Option Value} {name : Str} {v : Value} {tp : Addr}
/-- the first attribute of a new exception: its dict is laid at the heap's end -/
theorem xfirst_entry {tk : Tok} {Q : Fin → Shared → Prop} (SF : StoreFacts B bm sa owner)
    (hC : h.get? C = some (excClassObj nm q C N bs bm true sn sub ab col dd k0 k1 k2 k3 k5 newId)) (hn : h.Ns N mN) (hna : mN name = none) (hB : typeLookup (.type B) name = pure none) (hx : h.get? x = some (excObj C tp none))
    (k : ∀ h' tk', (∀ b o, b ≠ x → h.get? b = some o → h'.get? b = some o) → h'.get? x = some (excObj C tp (some h.objs.size)) → h'.Ns1 h.objs.size (fun y => if y = name then some v else none) → Q (.done (.ret .none)) ⟨h', g, d, tk', os⟩) :
    wpAny (model prog w) A (Builtin.«object.__setattr__» ⟨[.ref x, .str name tk, v], []⟩) Q E ⟨h, g, d, t, os⟩ := by
  have ps := SF.passes (.ref x)
  obtain ⟨ob, eb⟩ : ∃ ob, ob = excObj C tp none := ⟨_, rfl⟩
  have hc : ob.cls = .ref C := by rw [eb]
  have hf : ob.data = .fields #[.ref tp, .none, .none, .none, .bool false, .none] := by rw [eb]
  have hd : ob.dict = none := by rw [eb]
  rw [← eb] at hx
  unfold Builtin.«object.__setattr__»
  repeat (first | rw [refuse_eq] | (rw [refuseLoop_ref, ps]) | (with_reducible refine wpAny_loadPart_at hx ?_; rw [hc]) | with_reducible refine wpAny_mroOf_exc hC ?_ | (with_reducible refine wpAny_typeLookup_exc hC hn SF.mro hB ?_; rw [hna]) | wp_step)
  rw [hd, if_neg (by simp [typeHasDict])]
  split
  · rename_i z
    cases z
  split
  · rename_i c z
    rw [hf] at z
    cases z
  have hx' : (h.push { cls := .type "dict", data := .dict #[] }).get? x = some ob := Heap.get?_push_of_some _ hx
  have nx : x ≠ h.objs.size := Nat.ne_of_lt (Heap.lt_size hx)
  refine wpAny_bind (wpAny_alloc' ?_)
  refine wpAny_bind (wpAny_update' hx' (wpAny_pure ?_))
  have ed : ((h.push { cls := .type "dict", data := .dict #[] }).update x fun o => { cls := o.cls, dict := some h.objs.size, data := o.data, slots := o.slots }).get? h.objs.size = some { cls := .type "dict", data := .dict #[] } :=
    Eq.trans (Heap.get?_update_ne _ _ _ _ nx.symm) (Heap.get?_push_at rfl rfl)
  have nd : ((h.push { cls := .type "dict", data := .dict #[] }).update x fun o => { cls := o.cls, dict := some h.objs.size, data := o.data, slots := o.slots }).Ns h.objs.size (fun _ => none) :=
    ⟨_, #[], _, ed, rfl, (fun e he => absurd he (by simp)), fun _ => rfl⟩
  show wpAny _ _ (storeInDict h.objs.size (.str name tk) name v) _ _ _
  unfold storeInDict newKeyGuard
  refine wpAny_bind (wpAny_pure (wpAny_bind (wpAny_nsSet1 (Heap.Ns1.of_empty nd) (fun h' n1 sb => ?_))))
  obtain ⟨oD, esD, epD, hoD, hdD, hcD⟩ := n1.count (Within.cons name v Within.nil)
  refine wpAny_bind (wpAny_lookBehind hoD (by rw [hdD]; exact pastItsLine_dict (Nat.le_trans hcD (by rw [List.length_cons, List.length_nil, sizeLine_eq]; omega))) ?_)
  wp_walk
  subst eb
  refine k h' _ (fun b ob ne e => ?_) ?_ n1
  · have nb : b ≠ h.objs.size := Nat.ne_of_lt (Heap.lt_size e)
    exact (sb.2 b nb).trans (Eq.trans (Heap.get?_update_ne _ _ _ _ ne) (Heap.get?_push_of_some _ e))
  · exact (sb.2 x nx).trans (Heap.get?_update_self _ hx' rfl)
theorem xfirst {Q : Unit → Shared → Prop} (SF : StoreFacts B bm sa owner)
    (hC : h.get? C = some (excClassObj nm q C N bs bm true sn sub ab col dd k0 k1 k2 k3 k5 newId)) (hn : h.Ns N mN) (hns : mN "__setattr__" = none) (hna : mN name = none) (hB : typeLookup (.type B) name = pure none) (hx : h.get? x = some (excObj C tp none))
    (k : ∀ h' tk', (∀ b o, b ≠ x → h.get? b = some o → h'.get? b = some o) → h'.get? x = some (excObj C tp (some h.objs.size)) → h'.Ns1 h.objs.size (fun y => if y = name then some v else none) → Q () ⟨h', g, d, tk', os⟩) :
    wpAny (model prog w) A (setAttr (.ref x) name v) Q E ⟨h, g, d, t, os⟩ := by
  have f3 := SF.slot.bind (.ref x)
  unfold setAttr callSpecial? specialOf
  repeat (any_goals (first | assumption | with_reducible refine wpAny_loadPart_at hx ?_ | (with_reducible refine wpAny_typeLookup_exc hC hn SF.mro SF.slot.lookup ?_; rw [hns]) | wp_step))
  refine codeAny_call_builtin SF.slot.plain SF.entry (wpAny_check_sa SF hC hx rfl (xfirst_entry SF hC hn hna hB hx (fun h' tk' k1 k2 k3 => ?_)))
  repeat (any_goals (first | assumption | wp_step))
  exact k h' tk' k1 k2 k3
end
end XF
set_option maxRecDepth 100000
set_option maxHeartbeats 4000000
namespace XF
open PySem PyProof.Rows
open Sem (wp)
section
variable {prog : Program} {w : World} {A : Around} {E : Value → Shared → Prop} {s : Shared}
theorem nextT_item {it t : Addr} {i : Nat} {its : Array Value} {x : Value} {Q : Value → Shared → Prop} (hi : IsTupIter s.heap it t i) (ht : IsTup s.heap t its) (hx : its[i]? = some x)
    (k : ∀ h', IsTupIter h' it t (i + 1) → Heap.SameBut it s.heap h' → Q x { s with heap := h' }) : wpAny (model prog w) A (Builtin.SmallTypes.nextOf (.ref it)) Q E s := by
  obtain ⟨o, ho, hc, hd⟩ := id hi
  obtain ⟨ol, hol, _, nl, hdl⟩ := ht
  unfold Builtin.SmallTypes.nextOf
  refine wpAny_bind (wpAny_callSpecial?_slot (name := Str.ofString "__next__") hi.typeIs slot_tupleiter_next (wpAny_call_entry slot_tupleiter_next hi.typeIs entry_tupleiter_next ?_ (args_tupleiter_next _)))
  show wpAny _ _ (field (.ref it) 0 >>= _) _ _ s; refine wpAny_bind (wpAny_field ho hd (x := .ref t) rfl ?_)
  show wpAny _ _ (if (Value.ref t == Value.none) = true then _ else _) _ _ s; rw [if_neg (by simp)]
  show wpAny _ _ (field (.ref it) 1 >>= _) _ _ s; refine wpAny_bind (wpAny_field ho hd (x := .int i 0) rfl ?_)
  show wpAny _ _ (seqItems? (.ref t) >>= _) _ _ s; refine wpAny_bind (wpAny_seqItems hol hdl ?_)
  simp only [Int.toNat_natCast, hx]
  refine wpAny_bind (wpAny_setField ho hd (by simp) (wpAny_pure ⟨x, rfl, wpAny_pure (k _ ⟨_, Heap.get?_update_self _ ho (Obj.isFreed_of_fields (Obj.data_mapFields hd _)), (Obj.cls_mapFields ..).trans hc, ?_⟩ (Heap.SameBut.update ..))⟩))
  rw [Obj.data_mapFields hd]; simp [rawInt]
theorem nextT_end {it t : Addr} {i : Nat} {its : Array Value} {Q : Value → Shared → Prop} (hh : A.handled = none) (hi : IsTupIter s.heap it t i) (ht : IsTup s.heap t its) (hx : its[i]? = none)
    (k : ∀ h' e, Heap.ExtBut it s.heap h' → (∃ o, h'.get? e = some o ∧ o.cls = .type "StopIteration") → E (.ref e) { s with heap := h' }) : wpAny (model prog w) A (Builtin.SmallTypes.nextOf (.ref it)) Q E s := by
  obtain ⟨o, ho, hc, hd⟩ := id hi
  obtain ⟨ol, hol, _, nl, hdl⟩ := ht
  unfold Builtin.SmallTypes.nextOf
  refine wpAny_bind (wpAny_callSpecial?_slot (name := Str.ofString "__next__") hi.typeIs slot_tupleiter_next (wpAny_call_entry slot_tupleiter_next hi.typeIs entry_tupleiter_next ?_ (args_tupleiter_next _)))
  show wpAny _ _ (field (.ref it) 0 >>= _) _ _ s; refine wpAny_bind (wpAny_field ho hd (x := .ref t) rfl ?_)
  show wpAny _ _ (if (Value.ref t == Value.none) = true then _ else _) _ _ s; rw [if_neg (by simp)]
  show wpAny _ _ (field (.ref it) 1 >>= _) _ _ s; refine wpAny_bind (wpAny_field ho hd (x := .int i 0) rfl ?_)
  show wpAny _ _ (seqItems? (.ref t) >>= _) _ _ s; refine wpAny_bind (wpAny_seqItems hol hdl ?_)
  simp only [Int.toNat_natCast, hx]
  refine wpAny_bind (wpAny_rule (wpAny_bind (wpAny_setField ho hd (by simp) ?_)))
  show wpAny _ _ (newExc (.type "StopIteration") [] >>= _) _ _ _; refine wpAny_bind ?_
  simp only [newExc, newTuple]; refine wpAny_bind (wpAny_newObj_type ?_ (by size_fits))
  refine wpAny_bind (m := firstArgMember _ _) (wpAny_of_eq (a := Value.none) (by simp only [firstArgMember]; rfl) (wpAny_newObj_type ?_ (by size_fits)))
  simp only [raiseNew]; refine wpAny_bind (wpAny_handled ?_)
  first | rw [show A.in1.handled = none from hh] | rw [hh]
  refine wpAny_bind (wpAny_pure (wpAny_throw (k _ _ (((Heap.SameBut.update ..).extBut.push _).push _) ⟨_, Heap.get?_push_size _ rfl, rfl⟩)))
end
theorem drawsT {prog : Program} {w : World} {A : Around} (hh : A.handled = none) (it t : Addr) (ne : t ≠ it) (its : Array Value) :
    Draws prog w A it [it, t] its.size (fun i v => its[i]? = some v) (fun i h => IsTupIter h it t i ∧ IsTup h t its) where
  live := fun _ _ st => let ⟨o, ho, _⟩ := st.1; ⟨o, ho⟩
  frame := fun _ _ _ st hk => ⟨let ⟨o, ho, r⟩ := st.1; ⟨o, hk it (by simp) o ho, r⟩, let ⟨o, ho, r⟩ := st.2; ⟨o, hk t (by simp) o ho, r⟩⟩
  item := fun i s Q E hi st hQ => nextT_item st.1 st.2 (x := its[i]) (by simp [hi]) fun h' a b => hQ _ h' s.toks (by simp [hi]) ⟨a, st.2.extBut b.extBut ne⟩ b
  done := fun s Q E st hE => nextT_end hh st.1 st.2 (by simp) hE

theorem enumT_new (l : Addr) (its : Array Value) (n : Nat) (dct : Option Addr) (sl : Array (Option Value)) :
    Meets (Builtin.«enumerate.__new__» ⟨[.type "enumerate", .ref l], []⟩) (fun _ R s => s.heap.get? l = some { cls := .type "tuple", dict := dct, data := .seq its n, slots := sl } ∧
      R (.ok (.ret (.ref (s.heap.push { cls := .type "tuple_iterator", data := .fields #[.ref l, .int 0 0] }).objs.size)))
        { s with heap := (s.heap.push { cls := .type "tuple_iterator", data := .fields #[.ref l, .int 0 0] }).push { cls := .type "enumerate", data := .fields #[.none, .bool false, .ref s.heap.objs.size, rawInt 0, .none, .none] } }) :=
  .of_wp fun prog w A R s h => by
    obtain ⟨hp, g, d, tk, os⟩ := s; obtain ⟨hl, h⟩ := h
    have sb := sub_enumerate
    have hL : IsTup (Shared.heap ⟨hp, g, d, tk, os⟩) l its := ⟨_, hl, rfl, n, rfl⟩
    wp_walk using PySem.AutoSeq1.wpAny_loadPart' hl
    refine wpAny_stack_any fun st => wpAny_pure ?_
    split
    · rename_i c _ _ _ _ _
      cases (c == Value.type "enumerate") <;> (wp_walk using PySem.AutoSeq1.wpAny_loadPart' hl, iter_tuple hL; exact ⟨_, rfl, h⟩)
    · wp_walk using PySem.AutoSeq1.wpAny_loadPart' hl, iter_tuple hL
      exact ⟨_, rfl, h⟩
theorem call_enumT {prog : Program} {w : World} {A : Around} {E : Value → Shared → Prop} {s : Shared} {l : Addr} {its : Array Value} {Q : Value → Shared → Prop} (hL : IsTup s.heap l its)
    (k : ∀ h', IsEnum h' (s.heap.objs.size + 1) s.heap.objs.size 0 .none → IsTupIter h' s.heap.objs.size l 0 → (∀ b o, s.heap.get? b = some o → h'.get? b = some o) → Q (.ref (s.heap.objs.size + 1)) { s with heap := h' }) :
    wpAny (model prog w) A (call (.type "enumerate") [.ref l]) Q E s := by
  obtain ⟨⟨c, dct, dt, sl⟩, hl, hc, n, hd⟩ := hL
  replace hc : c = .type "tuple" := hc
  replace hd : dt = .seq its n := hd
  subst hc hd
  refine callType_new F.called_enumerate (by decide) (F.typeCall_enumerate_1 _) (F.newCall_enumerate_1 _) (fun obj => F.args_object_init_2 obj _) F.entry_enumerate_new (enumT_new l its n dct sl) ⟨hl, ?_⟩
  have hz : (s.heap.push { cls := .type "tuple_iterator", data := .fields #[.ref l, .int 0 0] }).objs.size = s.heap.objs.size + 1 := Heap.size_push ..
  show _ ∧ _
  rw [hz]
  have he : IsEnum ((s.heap.push { cls := .type "tuple_iterator", data := .fields #[.ref l, .int 0 0] }).push { cls := .type "enumerate", data := .fields #[.none, .bool false, .ref s.heap.objs.size, rawInt 0, .none, .none] }) (s.heap.objs.size + 1) s.heap.objs.size 0 .none := by
    have q := Heap.get?_push_size (s.heap.push { cls := .type "tuple_iterator", data := .fields #[.ref l, .int 0 0] }) (o := { cls := .type "enumerate", data := .fields #[.none, .bool false, .ref s.heap.objs.size, rawInt 0, .none, .none] }) rfl
    rw [hz] at q; exact q
  exact ⟨⟨_, he, rfl⟩, k _ he ⟨_, Heap.get?_push_of_some _ (Heap.get?_push_size _ rfl), rfl, rfl⟩ fun b o x => Heap.get?_push_of_some _ (Heap.get?_push_of_some _ x)⟩
end XF
set_option maxRecDepth 100000
set_option maxHeartbeats 4000000
set_option linter.all false
namespace L2
open PySem PySem.Spec PyProof.Rows

/-! ### exceptions of one's own, with attributes -/
theorem ObjOk.there {P : Program} {w : World} {H : Hp} {h : Heap} {a : Addr} {o : HO} (x : ObjOk P w H h a o) : ∃ ob, h.get? a = some ob := by
  cases o with
  | lst xs => obtain ⟨_, _, _, _, e⟩ := x; exact ⟨_, e⟩
  | tup xs => obtain ⟨_, _, _, ob, e, _⟩ := x; exact ⟨_, e⟩
  | dK kvs => obtain ⟨_, _, _, _, o, _, _, e, _⟩ := x; exact ⟨_, e⟩
  | dT kvs => obtain ⟨_, _, _, _, o, _, _, e, _⟩ := x; exact ⟨_, e⟩
  | set S n => obtain ⟨o, _, _, _, e, _⟩ := x; exact ⟨_, e⟩
  | ins C dx fs => obtain ⟨_, _, _, e, _⟩ := x; exact ⟨_, e⟩
  | own y => exact x
  | xd fs => obtain ⟨_, ⟨_, _, _, e, _⟩, _⟩ := x; exact ⟨_, e⟩
  | rng lo hi => obtain ⟨_, _, _, e⟩ := x; exact ⟨_, e⟩
  | frz ob u => obtain ⟨e, _⟩ := x; exact ⟨_, e⟩
  | tbl ps => exact ⟨_, (show h.get? a = some _ from x)⟩
  | met f y => exact ⟨_, (show h.get? a = some _ from x)⟩
  | ext φ => obtain ⟨_, z, _⟩ := x; exact z
theorem HOk.gone {P : Program} {w : World} {H : Hp} {h : Heap} {a : Addr} (x : HOk P w H h) (e : h.get? a = none) : H a = none := by
  cases q : H a with
  | none => rfl
  | some u =>
    obtain ⟨ob, z⟩ := (x a u q).there
    rw [e] at z; cases z

/-- objects of S are changed, laid or let go; all else stands -/
theorem Inv.turn {X : Cx} {pins : List (Addr × Obj)} {σ : St} {H H' : Hp} {s : Shared} {h' : Heap} {t' : Nat} (I : Inv X pins σ H s) (S : Addr → Prop)
    (old : ∀ b, S b → H b = none → s.heap.get? b = none) (kind : ∀ b, S b → ∀ o, H b = some o → Mut (some o)) (keep : ∀ b o, ¬ S b → s.heap.get? b = some o → h'.get? b = some o) (same : ∀ b, ¬ S b → H' b = H b)
    (new : ∀ b, S b → ∀ o, H' b = some o → ObjOk X.prog X.w H' h' b o) (there : ∀ b, S b → (∃ o, s.heap.get? b = some o) → ∃ o, h'.get? b = some o) : Inv X pins σ H' { s with heap := h', toks := t' } := by
  have noS : ∀ b o, s.heap.get? b = some o → H b = none → ¬ S b := fun b o e n z => by
    rw [old b z n] at e; cases e
  refine I.un (h' := h') (t' := t') ⟨fun b o e n _ _ => keep b o (noS b o e n) e, fun b o e n _ _ => ⟨o.slots, keep b o (noS b o e n) e⟩, fun b o e n _ => ?_, fun b o e _ => ?_, fun b xs e => ?_, fun b o u e => ?_, fun b ps e => ⟨#[], ?_⟩⟩ fun b o e => ?_
  · rw [same b (noS b o e n)]; exact n
  · by_cases z : S b
    · exact there b z ⟨o, e⟩
    · exact ⟨o, keep b o z e⟩
  · rw [same b fun z => kind b z _ e]; exact e
  · rw [same b fun z => kind b z _ e]; exact e
  · rw [same b fun z => kind b z _ e, e]; simp
  · by_cases z : S b
    · exact new b z o e
    · have e0 : H b = some o := by rw [← same b z]; exact e
      refine (I.hok b o e0).stay (fun c v hc r => keep c v ?_ r) (fun c q => ?_) fun c xs q => ?_
      · rcases hc with rfl | hc
        · exact z
        · exact fun y => kind c y _ hc
      · rw [same c fun y => kind c y _ q]; exact q
      · rw [same c fun y => kind c y _ q]; exact q

abbrev bmE : List Value := [.type "Exception", .type "BaseException", .type "object"]
/-- the class as it stands in a heap: of Exception, with an __init__ of its own, the names kind and place free -/
def XAt (h : Heap) (C fI : Addr) : Prop :=
  ∃ nm q N bs sn sub ab col dd k0 k1 k2 k3 k5 mN, h.get? C = some (excClassObj nm q C N bs bmE true sn sub ab col dd k0 k1 k2 k3 k5 "Exception.__new__") ∧ h.Ns N mN ∧
    mN "__init__" = some (.ref fI) ∧ mN "__setattr__" = none ∧ mN "__getattribute__" = none ∧ mN "__getattr__" = none ∧ mN "kind" = none ∧ mN "place" = none
structure XCls (K : PySem.W.Frag) (C fI : Addr) : Prop where
  at_ : ∀ h, K.In h → XAt h C fI
  fn : PySem.W.typeIn K (.ref fI) = some (.type "function")
  kp : PySem.W.keepIn K (.ref C) = true
theorem ns_of_K {K : PySem.W.Frag} {h : Heap} {N : Addr} {c0 : Value} {d0 : Option Addr} {es : Array DictEntry} {ep : Nat} {sl : Array (Option Value)} (X : K.In h) (lN : K.lookup N = some ⟨c0, d0, .dict es ep, sl⟩) (sk : StrKeys es) :
    h.Ns N (fun x => nsFind es x) := ⟨_, es, ep, X _ _ lN, rfl, sk, fun _ => rfl⟩
theorem find_of_nsIn {K : PySem.W.Frag} {N : Addr} {c0 : Value} {d0 : Option Addr} {es : Array DictEntry} {ep : Nat} {sl : Array (Option Value)} {x : Str} {r : Option Value} (lN : K.lookup N = some ⟨c0, d0, .dict es ep, sl⟩) (e : PySem.W.nsIn K N x = some r) :
    nsFind es x = r := by
  unfold PySem.W.nsIn at e
  rw [lN] at e
  dsimp only at e
  unfold nsFind findBy
  rw [← Array.find?_toList]
  split at e
  · rename_i en he
    cases e
    rw [he]; rfl
  · rename_i he
    split at e
    · cases e
    · cases e
      rw [he]; rfl
def strKeysB (es : Array DictEntry) : Bool := es.toList.all fun e => match e.key with | .str _ _ => true | _ => false
theorem strKeys_of {es : Array DictEntry} (h : strKeysB es = true) : StrKeys es := fun e he => by
  have z := List.all_eq_true.mp h e (Array.mem_toList_iff.mpr he)
  revert z
  cases e.key <;> intro z <;> first | exact ⟨_, _, rfl⟩ | cases z
theorem xcls_mk {K : PySem.W.Frag} {C fI N : Addr} {nm q : Str} {bs : List Value} {sn : List Str} {sub : List Value} {ab : Bool} {col : Option Bool} {dd : Option Addr} {k0 k1 k2 k3 k5 : Option Value} {c0 : Value} {d0 : Option Addr} {es : Array DictEntry} {ep : Nat} {sl : Array (Option Value)}
    (lC : K.lookup C = some (excClassObj nm q C N bs bmE true sn sub ab col dd k0 k1 k2 k3 k5 "Exception.__new__")) (lN : K.lookup N = some ⟨c0, d0, .dict es ep, sl⟩) (sk : strKeysB es = true)
    (i1 : PySem.W.nsIn K N "__init__" = some (some (.ref fI))) (i2 : PySem.W.nsIn K N "__setattr__" = some none) (i3 : PySem.W.nsIn K N "__getattribute__" = some none) (i4 : PySem.W.nsIn K N "__getattr__" = some none)
    (i5 : PySem.W.nsIn K N "kind" = some none) (i6 : PySem.W.nsIn K N "place" = some none) (fn : PySem.W.typeIn K (.ref fI) = some (.type "function")) (kp : PySem.W.keepIn K (.ref C) = true) : XCls K C fI :=
  ⟨fun h X => ⟨nm, q, N, bs, sn, sub, ab, col, dd, k0, k1, k2, k3, k5, _, X _ _ lC, ns_of_K X lN (strKeys_of sk), find_of_nsIn lN i1, find_of_nsIn lN i2, find_of_nsIn lN i3, find_of_nsIn lN i4, find_of_nsIn lN i5, find_of_nsIn lN i6⟩, fn, kp⟩

theorem lk_kind : typeLookup (.type "Exception") "kind" = pure none := by rw [typeLookup_type, builtinLookup_eq_fast]; kernel_rfl
theorem lk_place : typeLookup (.type "Exception") "place" = pure none := by rw [typeLookup_type, builtinLookup_eq_fast]; kernel_rfl

/-- an exception's dict; an exception as it is made; one that was caught -/
def XD (d : Addr) (fs : List (Str × V)) : HO := .ext fun h => ∃ mA, h.Ns1 d mA ∧ (∀ f, RelO (fs.lookup f) (mA f)) ∧ PySem.Within mA (fs.map (·.1))
def XO (e C : Addr) (dx : Option Addr) : HO := .ext fun h => ∃ t, h.get? e = some (XF.excObj C t dx)
def XC (e C d : Addr) : HO := .ext fun h => ∃ oe vs, h.get? e = some oe ∧ oe.cls = .ref C ∧ oe.dict = some d ∧ oe.data = .fields vs
section
variable {P : Program} {w : World} {H : Hp} {h : Heap} {d e C : Addr} {fs : List (Str × V)} {dx : Option Addr}
theorem XD.get (ok : HOk P w H h) (q : H d = some (XD d fs)) : ∃ mA, h.Ns1 d mA ∧ (∀ f, RelO (fs.lookup f) (mA f)) ∧ PySem.Within mA (fs.map (·.1)) := (ok d _ q).1
theorem XO.get (ok : HOk P w H h) (q : H e = some (XO e C dx)) : ∃ t, h.get? e = some (XF.excObj C t dx) := (ok e _ q).1
theorem XD.ok {mA : Str → Option Value} (n : h.Ns1 d mA) (r : ∀ f, RelO (fs.lookup f) (mA f)) (wi : PySem.Within mA (fs.map (·.1))) : ObjOk P w H h d (XD d fs) :=
  ⟨⟨mA, n, r, wi⟩, (let ⟨o, _, _, q, _⟩ := n; ⟨o, q⟩), fun h1 h2 ⟨mA, n, r, wi⟩ k => ⟨mA, n.at fun o q => k o q, r, wi⟩⟩
theorem XO.ok {t : Addr} (q : h.get? e = some (XF.excObj C t dx)) : ObjOk P w H h e (XO e C dx) := ⟨⟨t, q⟩, ⟨_, q⟩, fun h1 h2 ⟨t, q⟩ k => ⟨t, k _ q⟩⟩
theorem XC.ok {oe : Obj} {vs : Array Value} (q : h.get? e = some oe) (c : oe.cls = .ref C) (dq : oe.dict = some d) (f : oe.data = .fields vs) : ObjOk P w H h e (XC e C d) :=
  ⟨⟨oe, vs, q, c, dq, f⟩, ⟨_, q⟩, fun h1 h2 ⟨oe, vs, q, r⟩ k => ⟨oe, vs, k _ q, r⟩⟩
end
def XName (f : Str) : Prop := f = "kind" ∨ f = "place"

section
variable {X : Cx} {pins : List (Addr × Obj)} {σ : St} {H : Hp} {s : Shared} {e C d fI : Addr} {fs : List (Str × V)} {f : Str} {y v : V} {u : Value} {A : Around} {E : Value → Shared → Prop}
theorem Inv.noC (I : Inv X pins σ H s) (T : XCls X.K C fI) : H C = none ∧ XAt X.base C fI := by
  have z := T.at_ _ I.ok.mod.kin
  obtain ⟨nm, q, N, bs, sn, sub, ab, col, dd, k0, k1, k2, k3, k5, mN, hC, _⟩ := id z
  exact ⟨(I.bs C _ hC).2, z⟩
theorem Inv.new0 {b : Addr} {o : Obj} (I : Inv X pins σ H s) (hx : X.ex = []) (n : s.heap.get? b = none) (q : X.s_0.heap.get? b = some o) : False := by
  obtain ⟨o', z⟩ := I.base.there b o q (by rw [hx]; simp)
  rw [n] at z; cases z
theorem within_one (f : Str) (u : Value) : PySem.Within (fun z => if z = f then some u else none) ([f]) := fun g hg => by
  by_cases q : g = f
  · rw [q]; exact List.mem_cons_self
  · exact absurd (if_neg q) hg

theorem xset1 {Q : Unit → Shared → Prop} (I : Inv X pins σ H s) (T : XCls X.K C fI) (he : H e = some (XO e C none)) (hf : XName f) (ry : RelV y u)
    (h : ∀ s' d, H d = none → d ≠ e → Inv X pins σ (upd (upd H d (XD d [(f, y)])) e (XO e C (some d))) s' → Q () s') : wpAny (model X.prog X.w) A (setAttr (.ref e) f u) Q E s := by
  obtain ⟨nm, q, N, bs, sn, sub, ab, col, dd, k0, k1, k2, k3, k5, mN, hC, hn, _, hns, _, _, hk, hp⟩ := T.at_ _ I.kIn
  obtain ⟨t, hx⟩ := XO.get I.hok he
  have hna : mN f = none := by rcases hf with rfl | rfl; exact hk; exact hp
  have hB : typeLookup (.type "Exception") f = pure none := by rcases hf with rfl | rfl; exact lk_kind; exact lk_place
  obtain ⟨hh, g, dr, tk, os⟩ := s
  refine XF.xfirst PySem.F.store_Exception hC hn hns hna hB hx fun h' tk' k1 k2 k3 => ?_
  have nd : H hh.objs.size = none := I.hok.fresh (Nat.le_refl _)
  have ne : hh.objs.size ≠ e := (Nat.ne_of_lt (Heap.lt_size hx)).symm
  refine h _ hh.objs.size nd ne (I.turn (S := fun b => b = hh.objs.size ∨ b = e) (h' := h') (t' := tk') (fun b z n => ?_) (fun b z o q => ?_) (fun b o z q => ?_) (fun b z => ?_) (fun b z o q => ?_) fun b z _ => ?_)
  · rcases z with rfl | rfl
    · exact Heap.get?_none_of_le (Nat.le_refl _)
    · rw [he] at n; cases n
  · rcases z with rfl | rfl
    · rw [nd] at q; cases q
    · rw [he] at q; cases q; exact True.intro
  · exact k1 b o (fun y => z (.inr y)) q
  · rw [upd_ne (fun y => z (.inr y)), upd_ne (fun y => z (.inl y))]
  · by_cases be : b = e
    · subst be
      rw [upd_same] at q; cases q
      exact XO.ok k2
    · rw [upd_ne be] at q
      rcases z with rfl | z
      · rw [upd_same] at q; cases q
        refine XD.ok k3 (fun g => ?_) (within_one f u)
        by_cases gf : g = f
        · subst gf
          simp only [if_true, List.lookup_cons_self]
          exact ry
        · rw [if_neg gf]
          have : List.lookup g [(f, y)] = none := by rw [List.lookup_cons, beq_eq_false_iff_ne.mpr gf]; rfl
          rw [this]; exact True.intro
      · exact absurd z be
  · rcases z with rfl | rfl
    · obtain ⟨o, _, _, q, _⟩ := k3; exact ⟨o, q⟩
    · exact ⟨_, k2⟩

theorem xset2 {Q : Unit → Shared → Prop} (I : Inv X pins σ H s) (T : XCls X.K C fI) (he : H e = some (XO e C (some d))) (hd : H d = some (XD d fs)) (ne : d ≠ e) (hl : fs.length < 1000) (hf : XName f) (ry : RelV y u)
    (h : ∀ s', Inv X pins σ (upd H d (XD d (putF f y fs))) s' → Q () s') : wpAny (model X.prog X.w) A (setAttr (.ref e) f u) Q E s := by
  obtain ⟨nm, q, N, bs, sn, sub, ab, col, dd, k0, k1, k2, k3, k5, mN, hC, hn, _, hns, _, _, hk, hp⟩ := T.at_ _ I.kIn
  obtain ⟨t, hx⟩ := XO.get I.hok he
  obtain ⟨mA, n1, r, wi⟩ := XD.get I.hok hd
  have hna : mN f = none := by rcases hf with rfl | rfl; exact hk; exact hp
  have hB : typeLookup (.type "Exception") f = pure none := by rcases hf with rfl | rfl; exact lk_kind; exact lk_place
  have nC : e ≠ C := fun z => by rw [z, (I.noC T).1] at he; cases he
  have hz : (fs.map (·.1)).length ≤ sizeLine := by rw [List.length_map, sizeLine_eq]; omega
  obtain ⟨hh, g, dr, tk, os⟩ := s
  refine store_attr PySem.F.store_Exception hC hn hns hna hB nC ⟨_, hx, rfl, (fun c z => by cases z), .inr ⟨d, rfl, ne, n1⟩⟩ (fun h' tk' I' kp sm => ?_) wi hz
  obtain ⟨o1, hx1, c1, d1, s1, dq1⟩ := sm _ hx
  have eo : o1 = XF.excObj C t (some d) := by
    obtain ⟨a1, a2, a3, a4⟩ := o1
    have b1 : a1 = _ := c1
    have b2 : a2 = some d := dq1 d rfl
    have b3 : a3 = _ := d1
    have b4 : a4 = _ := s1
    rw [b1, b2, b3, b4]
  subst eo
  obtain ⟨o', hx', _, _, w⟩ := I'
  rw [hx1] at hx'
  cases hx'
  rcases w with ⟨z, _⟩ | ⟨d', z, _, n2⟩
  · cases z
  · cases z
    refine h _ (I.turn (S := fun b => b = d) (h' := h') (t' := tk') (fun b z n => ?_) (fun b z o q => ?_) (fun b o z q => ?_) (fun b z => upd_ne z) (fun b z o q => ?_) fun b z _ => ?_)
    · subst z; rw [hd] at n; cases n
    · subst z; rw [hd] at q; cases q; exact True.intro
    · by_cases be : b = e
      · subst be
        rw [hx] at q; cases q
        exact hx1
      · refine kp b o be (fun o0 dx q0 q1 => ?_) q
        rw [hx] at q0; cases q0
        cases q1
        exact z
    · subst z
      rw [upd_same] at q; cases q
      refine XD.ok n2 (fun g => ?_) (fun g hg => ?_)
      · show RelO ((putF f y fs).lookup g) (if g = f then some u else mA g)
        rw [lookup_putF]
        by_cases q : g = f
        · rw [if_pos q, if_pos q]; exact ry
        · rw [if_neg q, if_neg q]; exact r g
      · by_cases q : g = f
        · rw [q]; exact (keys_putF f y fs).1
        · refine (keys_putF f y fs).2 g (wi g fun z => hg ?_)
          show (if g = f then some u else mA g) = none
          rw [if_neg q]; exact z
    · obtain ⟨o, _, _, q, _⟩ := n2
      subst z
      exact ⟨o, q⟩

end

/-! readings and rules -/
/-- self.f = value in the exception's __init__, first and later -/
def sX1 (C : Addr) (ta tv : TE) (f : Str) : TS := fun D σ H => tv σ H fun y H1 => ta σ H1 fun x H2 => ∃ e, x = .ref e ∧ H2 e = some (XO e C none) ∧ XName f ∧
  ∀ d, H2 d = none → d ≠ e → D.nx σ (upd (upd H2 d (XD d [(f, y)])) e (XO e C (some d)))
def sX2 (C : Addr) (ta tv : TE) (f : Str) : TS := fun D σ H => tv σ H fun y H1 => ta σ H1 fun x H2 => ∃ e d fs, x = .ref e ∧ H2 e = some (XO e C (some d)) ∧ H2 d = some (XD d fs) ∧ d ≠ e ∧ fs.length < 1000 ∧ XName f ∧
  D.nx σ (upd H2 d (XD d (putF f y fs)))
/-- C(..) of an exception's class -/
def tXMake (g0 : Heap) (C : Addr) (sp : Sp) (t : TA) : TE := fun σ H Q => t σ H fun vs H1 => ∀ e, H1 e = none → g0.get? e = none → sp (.ref e :: vs) (upd H1 e (XO e C none)) (fun v H2 => v = .non ∧ Q (.ref e) H2) E0
section
variable {X : Cx} {o e value : Expr} {f : Str} {pos pos' tpos : Pos} {ta tv : TE} {C fI : Addr}
theorem ps_xfld1 (T : XCls X.K C fI) (ha : PE X o ta) (hv : PE X value tv) (hs : swapsWith value (some (.Attribute o f pos')) pos.line X.env = pure false) : PS X (.Assign [.Attribute o f pos'] value pos) (sX1 C ta tv f) := by
  intro pins s σ H D I h
  refine plainObj_wpAny_Assign_Attribute (thn (hv pins s σ H _ I h) fun u s1 ⟨y, H1, I1, ry, q⟩ => thn (ha pins s1 σ H1 _ I1 q) fun ov s2 hq9 => ?_) hs
  obtain ⟨x, H2, I2, rx, a, ex, ea, n, q2⟩ := hq9
  subst ex
  obtain rfl : ov = Value.ref a := rx
  exact xset1 I2 T ea n ry fun s3 d z1 z2 I3 => ⟨σ, _, I3, q2 d z1 z2⟩
theorem ps_xfld2 (T : XCls X.K C fI) (ha : PE X o ta) (hv : PE X value tv) (hs : swapsWith value (some (.Attribute o f pos')) pos.line X.env = pure false) : PS X (.Assign [.Attribute o f pos'] value pos) (sX2 C ta tv f) := by
  intro pins s σ H D I h
  refine plainObj_wpAny_Assign_Attribute (thn (hv pins s σ H _ I h) fun u s1 ⟨y, H1, I1, ry, q⟩ => thn (ha pins s1 σ H1 _ I1 q) fun ov s2 hq9 => ?_) hs
  obtain ⟨x, H2, I2, rx, a, d, fs, ex, ea, ed, ne, l, n, q2⟩ := hq9
  subst ex
  obtain rfl : ov = Value.ref a := rx
  exact xset2 I2 T ea ed ne l n ry fun s3 I3 => ⟨σ, _, I3, q2⟩
variable {k : Nat} {fd : FuncData} {ps : List Str} {sp : Sp} {x : Str} {p : Pos} {es : List Expr} {t : TA}
theorem pe_xmake (T : XCls X.K C fI) (F : FnOk X.prog X.w X.K X.mg X.base CX0 k fI fd ps sp) (hr : Room (k + 1) X.A) (hg : Gl X x) (hm : X.mg x = some (.ref C)) (hb : Binds X.K fd ps []) (hps : ps.length ≤ 1000) (hex : X.ex = [])
    (ha : PA X (e :: es) t) (hdb : (x == ("__debug__" : Str)) = false := by decide) (he : starEach (e :: es) X.env = (false, eval e X.env) :: starEach es X.env := by rfl) (hpl : (backTo pos (starEach es X.env)).any (·.1) = false := by rfl) :
    PE X (.Call (.Name x p) (e :: es) [] pos) (tXMake X.s_0.heap C sp t) := by
  intro pins s σ H Q I h
  refine wpAny_Call_Name_kw (ld_glob I hg hm ?_ hdb)
  refine PySem.W.callWith_K (h₀ := X.base) I.ok.mod.kin T.kp (thn (ha pos pins s σ H _ I h) fun us s1 hq9 => ?_) he hpl
  obtain ⟨vs, H1, I1, r, q⟩ := hq9
  refine ⟨I1.kIn, ?_⟩
  have hl0 := F.len _ _ _ _ (q s1.heap.objs.size (I1.hok.fresh (Nat.le_refl _)) (Heap.get?_none_of_le I1.sz))
  have hl : us.length + 1 = ps.length := by rw [← hl0, List.length_cons, r.length]
  obtain ⟨nm, qn, N, bs, sn, sub, ab, col, dd, k0, k1, k2, k3, k5, mN, hC, hn, hi, _⟩ := T.at_ _ I1.kIn
  obtain ⟨of, hof, hfc⟩ := Option.map_eq_some_iff.mp (show (X.K.lookup fI).map (·.cls) = some (.type "function") from T.fn)
  have I1' := I1
  obtain ⟨hh, g, dr, tk, os⟩ := s1
  refine wpAny_call_exc_init PySem.F.excBase_Exception hC hn hi (I1.kIn _ _ hof) hfc (fun h' a hm => ?_) (by show us.length ≤ sizeLine; rw [sizeLine_eq]; omega)
  obtain ⟨tp, hx, _, _⟩ := hm.there
  have na : H1 a = none := I1.hok.gone hm.new
  have na0 : X.s_0.heap.get? a = none := by
    cases q0 : X.s_0.heap.get? a with
    | none => rfl
    | some o => exact (I1.new0 hex hm.new q0).elim
  have I2 : Inv X pins σ (upd H1 a (XO a C none)) { heap := h', gens := g, drawn := dr, toks := tk, os := os } := by
    refine I1.turn (S := fun b => b = a) (h' := h') (t' := tk) (fun b z n => ?_) (fun b z o q => ?_) (fun b o z q => hm.keeps b o q) (fun b z => upd_ne z) (fun b z o q => ?_) fun b z _ => ?_
    · subst z; exact hm.new
    · subst z; rw [na] at q; cases q
    · subst z
      rw [upd_same] at q; cases q
      exact XO.ok hx
    · subst z; exact ⟨_, hx⟩
  have r2 : Vals (V.ref a :: vs) (Value.ref a :: us) := .cons rfl r
  refine wpAny_call (codeAny_mono (F.run _ X.stack _ _ ⟨Value.ref a :: us, []⟩ (Value.ref a :: us) (V.ref a :: vs) _ E0 (hr.make C us []) (I2.env0.make C us []) ?_ r2 (q a na na0)) fun rr s' hq => ?_)
  · have z := hb { heap := h', gens := g, drawn := dr, toks := tk, os := os } (Value.ref a :: us) I2.kIn (by rw [List.append_nil]; simpa using hl)
    rw [List.append_nil] at z
    exact z
  · cases rr with
    | error er => exact False.elim hq
    | ok fl =>
      cases fl with
      | ret u =>
        obtain ⟨v, H', I3, rv, ev, q3⟩ := I2.after hq
        subst ev
        exact ⟨rv, ⟨V.ref a, H', I3, rfl, q3⟩⟩
      | next => exact False.elim hq
      | brk => exact False.elim hq
      | cont => exact False.elim hq
end

/-! ### an exception under way -/
/-- e is let go of -/
def untr (H : Hp) (e : Addr) : Hp := fun b => if b = e then none else H b
theorem untr_ne {H : Hp} {e b : Addr} (h : b ≠ e) : untr H e b = H b := if_neg h
theorem untr_same {H : Hp} {e : Addr} : untr H e e = none := if_pos rfl
def CXF (P : Program) (w : World) : CXT := fun outer H s E x s' => ∃ e C d H', x = .ref e ∧ s'.os = s.os ∧ AllBare s'.gens ∧ Un (frs outer) [] H H' s.heap s'.heap ∧ HOk P w H' s'.heap ∧ H' e = none ∧ s.heap.get? e = none ∧
  XF.Up s'.heap e (.ref C) (some d) (fun T => H' T = none ∧ s.heap.get? T = none) ∧ E (.ref C) (some d) H'
section
variable {P : Program} {w : World} {K : PySem.W.Frag} {mg : Str → Option Value} {base : Heap} {N : List Str} {qual : Str} {scope : Scope} {f : Addr} {cd : Value} {A : Around} {outer : List Env} {s0 : Shared} {H0 : Hp} {E : XK}
theorem xe_of {pins : List (Addr × Obj)} {σ : St} {H' : Hp} {s' : Shared} {e C d : Addr} (I : Inv (cxOf (CXF P w) P w K mg base N qual scope f cd A outer s0 H0 E) pins σ H' s') (he : H' e = none) (hn : s0.heap.get? e = none)
    (U : XF.Up s'.heap e (.ref C) (some d) (fun T => H' T = none ∧ s0.heap.get? T = none)) (hE : E (.ref C) (some d) H') : (cxOf (CXF P w) P w K mg base N qual scope f cd A outer s0 H0 E).xe (.ref e) s' := by
  have hab : s0.heap.objs.size ≤ s'.heap.objs.size := I.sz
  have stk : (cxOf (CXF P w) P w K mg base N qual scope f cd A outer s0 H0 E).stack = envOfC qual scope s0.heap.objs.size f cd :: outer := rfl
  show wpAny (model P w) _ (leaving (envOfC qual scope s0.heap.objs.size f cd) (.ref e)) _ _ s'
  refine XF.leave_up (base := base) I.ok.frames I.stack rfl U fun h' k1 k2 u => ?_
  have inF : ∀ b, b ∈ frs outer → b ∈ (envOfC qual scope s0.heap.objs.size f cd :: outer).filterMap (·.frame) := fun b hb => List.mem_cons_of_mem _ hb
  have ofF : ∀ b, b ∈ (envOfC qual scope s0.heap.objs.size f cd :: outer).filterMap (·.frame) → b = s0.heap.objs.size ∨ b ∈ frs outer := fun b hb => List.mem_cons.mp hb
  have keepIt : ∀ b o o', s0.heap.get? b = some o → s'.heap.get? b = some o' → b ∉ frs outer → h'.get? b = some o' := fun b o o' q q' nf => by
    refine k1 b o' q' (fun z => ?_) (fun z => ?_) fun z => ?_
    · rcases ofF b z with z | z
      · rw [z] at q; exact absurd (Heap.lt_size q) (Nat.lt_irrefl _)
      · exact nf z
    · rw [z, hn] at q; cases q
    · rw [z.2] at q; cases q
  refine ⟨e, C, d, H', rfl, I.os, I.bare, ⟨fun b o q n nf hx => keepIt b o o q (I.base.keep b o q n nf hx) nf, fun b o q n mf hx => ?_, fun b o q n hx => I.base.free b o q n hx, fun b o q hx => ?_, I.base.tups, I.base.frzs, I.base.tbls⟩, fun b u q => ?_, he, hn, u.mono fun T hT => ⟨I.hok.fresh hT, Heap.get?_none_of_le (Nat.le_trans hab hT)⟩, hE⟩
  · obtain ⟨sl, q1⟩ := I.base.slot b o q n mf hx
    obtain ⟨sl', q2⟩ := k2 b _ q1 (inF b mf)
    exact ⟨sl', q2⟩
  · obtain ⟨o', q1⟩ := I.base.there b o q hx
    by_cases mf : b ∈ frs outer
    · obtain ⟨sl', q2⟩ := k2 b _ q1 (inF b mf)
      exact ⟨_, q2⟩
    · exact ⟨o', keepIt b o o' q q1 mf⟩
  · have tr : ∀ c, (c = b ∨ H' c = some (.own b)) → H' c ≠ none := fun c hc => by
      rcases hc with rfl | hc
      · rw [q]; simp
      · rw [hc]; simp
    exact (I.hok b u q).stay (fun c v hc r => k1 c v r (fun z => tr c hc (I.stkFree c z)) (fun z => tr c hc (by rw [z]; exact he)) fun z => tr c hc z.1) (fun _ y => y) fun _ _ y => y
theorem passF : Passes (CXF P w) (cxOf (CXF P w) P w K mg base N qual scope f cd A outer s0 H0 E) E := by
  rintro pins σ H s x s' I ⟨e, C, d, H', rfl, os, bare, un, hok, he, hn, U, hE⟩
  have I' : Inv (cxOf (CXF P w) P w K mg base N qual scope f cd A outer s0 H0 E) pins σ H' s' := I.call' os un hok bare (ch := []) (fun b z => absurd z (by simp))
  have old : ∀ b, s.heap.get? b = none → s0.heap.get? b = none := fun b z => by
    cases q : s0.heap.get? b with
    | none => rfl
    | some o =>
      obtain ⟨o', y⟩ := I.base.there b o q (by show b ∉ ([] : List Addr); simp)
      rw [z] at y; cases y
  exact xe_of I' he (old e hn) (U.mono fun T ⟨a, b⟩ => ⟨a, old T b⟩) hE
/-- raise C(..) -/
def tXRaise (g0 : Heap) (E : XK) (C : Addr) (te : TE) : TS := fun _ σ H => te σ H fun v H1 => ∃ e d, v = .ref e ∧ H1 e = some (XO e C (some d)) ∧ g0.get? e = none ∧ E (.ref C) (some d) (untr H1 e)
theorem Inv.untr {X : Cx} {pins : List (Addr × Obj)} {σ : St} {H : Hp} {s : Shared} {e : Addr} {φ : Heap → Prop} (I : Inv X pins σ H s) (he : H e = some (.ext φ)) : Inv X pins σ (L2.untr H e) s := by
  refine ⟨I.ok, I.os, I.bare, ⟨I.base.keep, I.base.slot, fun b o q n hx => ?_, I.base.there, fun b xs q => ?_, fun b o u q => ?_, fun b ps q => ?_⟩, I.loc, I.cell, ?_, fun x c q => ?_, fun p hp => ?_, fun b o q => ?_, I.len⟩
  · have := I.base.free b o q n hx
    unfold L2.untr; split
    · rfl
    · exact this
  · have := I.base.tups b xs q
    rw [untr_ne (ne_of this he (by intro z; cases z))]; exact this
  · have := I.base.frzs b o u q
    rw [untr_ne (ne_of this he (by intro z; cases z))]; exact this
  · obtain ⟨more, this⟩ := I.base.tbls b ps q
    exact ⟨more, by rw [untr_ne (ne_of this he (by intro z; cases z))]; exact this⟩
  · unfold L2.untr; split
    · rfl
    · exact I.free
  · unfold L2.untr; split
    · rfl
    · exact I.freeC x c q
  · obtain ⟨a1, a2, a3⟩ := I.pin p hp
    refine ⟨a1, ?_, a3⟩
    unfold L2.untr; split
    · rfl
    · exact a2
  · by_cases z : b = e
    · rw [z, untr_same] at q; cases q
    · rw [untr_ne z] at q
      refine (I.hok b o q).stay (fun _ _ _ r => r) (fun c r => ?_) fun c xs r => ?_
      · rw [untr_ne (ne_of r he (by intro z; cases z))]; exact r
      · rw [untr_ne (ne_of r he (by intro z; cases z))]; exact r
theorem ps_xraise {x : Expr} {pos : Pos} {te : TE} {C fI : Addr} (T : XCls K C fI) (hx : PE (cxOf (CXF P w) P w K mg base N qual scope f cd A outer s0 H0 E) x te) :
    PS (cxOf (CXF P w) P w K mg base N qual scope f cd A outer s0 H0 E) (.Raise (some x) none pos) (tXRaise s0.heap E C te) := by
  intro pins s σ H D I h
  obtain ⟨nm, qn, Nn, bs, sn, sub, ab, col, dd, k0, k1, k2, k3, k5, mN, hC, _⟩ := (I.noC T).2
  refine XF.xraise (C := C) (nm := nm) (q := qn) (N := Nn) (bs := bs) (bm := bmE) (hdct := true) (sn := sn) (sub := sub) (ab := ab) (col := col) (dd := dd) (k0 := k0) (k1 := k1) (k2 := k2) (k3 := k3) (k5 := k5) (newId := "Exception.__new__") (by decide) (I.ok.hd rfl)
    (thn (hx pins s σ H _ I h) fun u s1 hq9 => ?_)
  obtain ⟨v, H1, I1, rv, e, d, ev, he, hn, hE⟩ := hq9
  subst ev
  obtain rfl : u = Value.ref e := rv
  obtain ⟨t, hob⟩ := XO.get I1.hok he
  exact ⟨e, t, some d, rfl, I1.bk _ _ hC, hob, xe_of (I1.untr he) untr_same hn ⟨_, _, hob, rfl, rfl, rfl, .inl rfl⟩ hE⟩

/-- the exception's two attributes -/
abbrev ff (k p : Int) : List (Str × V) := [("kind", .int k), ("place", .int p)]
/-- what is wanted of a fault -/
def Flt (E : XK) (C : Addr) (k p : Int) : Prop := ∀ d H', H' d = some (XD d (ff k p)) → E (.ref C) (some d) H'
/-- the promise of the class's __init__ -/
def spFault (C : Addr) : Sp := fun vs H Q _ => ∃ (e : Addr) (k p : Int), vs = [.ref e, .int k, .int p] ∧ H e = some (XO e C none) ∧ ∀ (d : Addr) (H' : Hp), H' e = some (XO e C (some d)) → H' d = some (XD d (ff k p)) → d ≠ e → Q .non H'
theorem flt_in {g0 : Heap} {E : XK} {C : Addr} {k p : Int} {H1 : Hp} (fl : Flt E C k p) : ∀ e, H1 e = none → g0.get? e = none → spFault C (.ref e :: [.int k, .int p]) (upd H1 e (XO e C none))
    (fun v H2 => v = .non ∧ ∃ e' d, V.ref e = .ref e' ∧ H2 e' = some (XO e' C (some d)) ∧ g0.get? e' = none ∧ E (.ref C) (some d) (untr H2 e')) E0 := by
  intro e ne n0
  refine ⟨e, k, p, rfl, upd_same, fun d H' h1 h2 dn => ⟨rfl, e, d, rfl, h1, n0, fl d _ ?_⟩⟩
  rw [untr_ne dn]
  exact h2
theorem ps_flt {x : Str} {np cpos pos : Pos} {a : Expr} {as : List Expr} {t : TA} {C fI : Addr} {k : Nat} {fd : FuncData} (T : XCls K C fI) (F : FnOk P w K mg base CX0 k fI fd ["self", "kind", "place"] (spFault C))
    (hr : Room (k + 1) (A.deeper (envOfC qual scope s0.heap.objs.size f cd))) (hg : Gl (cxOf (CXF P w) P w K mg base N qual scope f cd A outer s0 H0 E) x) (hm : mg x = some (.ref C)) (hb : Binds K fd ["self", "kind", "place"] [])
    (ha : PA (cxOf (CXF P w) P w K mg base N qual scope f cd A outer s0 H0 E) (a :: as) t) (hdb : (x == ("__debug__" : Str)) = false := by decide)
    (he : starEach (a :: as) (cxOf (CXF P w) P w K mg base N qual scope f cd A outer s0 H0 E).env = (false, eval a (cxOf (CXF P w) P w K mg base N qual scope f cd A outer s0 H0 E).env) :: starEach as (cxOf (CXF P w) P w K mg base N qual scope f cd A outer s0 H0 E).env := by rfl)
    (hpl : (backTo cpos (starEach as (cxOf (CXF P w) P w K mg base N qual scope f cd A outer s0 H0 E).env)).any (·.1) = false := by rfl) :
    PS (cxOf (CXF P w) P w K mg base N qual scope f cd A outer s0 H0 E) (.Raise (some (.Call (.Name x np) (a :: as) [] cpos)) none pos) (tXRaise s0.heap E C (tXMake s0.heap C (spFault C) t)) :=
  ps_xraise T (pe_xmake (X := cxOf (CXF P w) P w K mg base N qual scope f cd A outer s0 H0 E) T F hr hg hm hb (by decide) rfl ha hdb he hpl)
end
end L2
set_option maxRecDepth 100000
set_option maxHeartbeats 4000000
set_option linter.all false
namespace L2
open PySem PySem.Spec PyProof.Rows
/-! ### enumerate(tuple) -/
def IteT (K : PySem.W.Frag) (a : Addr) : It :=
  ⟨fun i H => ∃ (xs : List V) (x : V), SqT K H a xs ∧ xs[i]? = some x, fun i H v H' => ∃ T x, v = .ref T ∧ H T = none ∧ H' = upd H T (.tup [.int (i : Nat), x]) ∧ ∀ xs, SqT K H a xs → xs[i]? = some x, fun i H => ∃ xs : List V, SqT K H a xs ∧ xs.length ≤ i⟩
theorem tup_ne_it {h : Heap} {a it : Addr} {its : Array Value} {i : Nat} (p : IsTup h a its) (q : IsTupIter h it a i) : a ≠ it := by
  rintro rfl
  obtain ⟨o, h1, h2, _⟩ := p
  obtain ⟨o', h3, h4, _⟩ := q
  rw [h1] at h3; cases h3
  rw [h2] at h4
  injection h4 with h4
  exact absurd h4 (by decide)
theorem tup_ne_en {h : Heap} {a e it : Addr} {its : Array Value} {i : Int} {old : Value} (p : IsTup h a its) (q : IsEnum h e it i old) : a ≠ e := by
  rintro rfl
  obtain ⟨o, h1, h2, _⟩ := p
  rw [show h.get? a = some _ from q] at h1; cases h1
  injection h2 with h4
  exact absurd h4 (by decide)
theorem turn_enumT {P : Program} {w : World} {K : PySem.W.Frag} {elts : List Expr} {kk : Nat} {tpos : Pos} (a e it : Addr) :
    Turn P w K (.Tuple elts kk tpos) (IteT K a) [e, it] e (fun i h => (∃ old, IsEnum h e it ((i : Nat) : Int) old) ∧ IsTupIter h it a i ∧ e ≠ it) where
  mem := by simp
  obj := fun i h st b hb => by
    obtain ⟨⟨old, he⟩, ⟨o, ho, hc, hd⟩, _⟩ := st
    have e' : b = e ∨ b = it := by simpa using hb
    rcases e' with z | z
    · rw [z]; exact ⟨_, he, fun v q => nomatch q⟩
    · rw [z]; exact ⟨o, ho, fun v q => by rw [hd] at q; cases q⟩
  keep := fun i h h' st k => let ⟨⟨old, he⟩, ⟨o, ho, r⟩, hne⟩ := st; ⟨⟨old, k e (by simp) _ he⟩, ⟨o, k it (by simp) o ho, r⟩, hne⟩
  item := by
    intro X hP hw hK hc i pins s σ H E I hf st hg
    subst hP hw hK
    obtain ⟨⟨old, he⟩, hit, hne⟩ := st
    obtain ⟨xs, x, hq, hx⟩ := hg
    obtain ⟨its, rv, p, hz⟩ := I.tuple hq
    obtain ⟨u, hu, ru⟩ := rv.get hx
    have hel : e < s.heap.objs.size := Heap.lt_size he
    have hil : it < s.heap.objs.size := by obtain ⟨_, q, _⟩ := hit; exact Heap.lt_size q
    have nit := tup_ne_it p hit
    have nen := tup_ne_en p he
    have hlt : i < its.toArray.size := by
      rw [List.size_toArray, ← rv.length]
      exact (List.getElem?_eq_some_iff.mp hx).1
    refine wpAny_pyNext_enum_itemD (XF.drawsT (A := X.A.in1) (show X.A.in1.handled = none from I.ok.hd hc) it a nit its.toArray) he ⟨hit, p⟩ hlt hne (by simp [hne, nen.symm]) fun y h' tk hy ho hs' hT hsz hk => ?_
    obtain rfl : y = u := by
      have hy' : its.toArray[i]? = some y := hy
      rw [List.getElem?_toArray, hu] at hy'
      exact (Option.some.inj hy').symm
    refine ⟨_, rfl, wpAny_letOwnedTupleGo_enum (s := { s with heap := h', toks := tk + 1 }) ho fun h'' he' sb => ?_⟩
    have hT2 : h''.get? s.heap.objs.size = some { cls := .type "tuple", data := .seq #[.int i tk, y] } := (sb.2 _ (Nat.ne_of_gt hel)).trans hT
    have new : ObjOk X.prog X.w (upd H s.heap.objs.size (.tup [.int (i : Nat), x])) h'' s.heap.objs.size (.tup [.int (i : Nat), x]) :=
      ⟨by show 2 ≤ sizeLine; decide, [.int i tk, y], .cons ⟨_, rfl⟩ (.cons ru .nil), ⟨_, hT2, rfl, _, rfl⟩⟩
    have I1 : Inv X pins σ (upd H s.heap.objs.size (.tup [.int (i : Nat), x])) { s with heap := h'', toks := tk + 1 } :=
      I.turnedNew (ch := [e, it]) (fun b ob hb q => (sb.2 b (fun z => hb (by simp [z]))).trans (hk b ob (fun z => hb (by simp [z])) (fun z => hb (by simp [z])) q)) hf (Nat.le_refl _) new
    have hit2 : IsTupIter h'' it a (i + 1) := by
      obtain ⟨⟨o, q1, q2⟩, _⟩ := hs'
      exact ⟨o, (sb.2 it (Ne.symm hne)).trans q1, q2⟩
    refine ⟨.ref s.heap.objs.size, _, I1, rfl, ⟨_, x, rfl, I.hok.fresh (Nat.le_refl _), rfl, fun ys hy => by rw [I.tuple_inj hy hq]; exact hx⟩, ⟨⟨y, ?_⟩, hit2, hne⟩, fun b hb => ?_⟩
    · have e1 : ((i + 1 : Nat) : Int) = (i : Int) + 1 := by omega
      rw [e1]; exact he'
    · have hb' : b < s.heap.objs.size := by
        have e' : b = e ∨ b = it := by simpa using hb
        rcases e' with z | z
        · rw [z]; exact hel
        · rw [z]; exact hil
      rw [upd_ne (Nat.ne_of_lt hb')]
      exact (hf b hb).1
  done := by
    intro X hP hw hK hc i pins s σ H E I hf st hg
    subst hP hw hK
    obtain ⟨⟨old, he⟩, hit, hne⟩ := st
    obtain ⟨xs, hq, hx⟩ := hg
    obtain ⟨its, rv, p, hz⟩ := I.tuple hq
    obtain ⟨f0, f1, f2, f3, f4, f5⟩ := hf it (by simp)
    have hl := rv.length
    have nit := tup_ne_it p hit
    have hT : s.TypeIs (.ref e) "enumerate" := ⟨_, he, rfl⟩
    unfold pyNext
    refine wpAny_bind (wpAny_attempt (wpAny_callSpecial?_slot (name := Str.ofString "__next__") hT F.slot_enumerate_next (wpAny_call_entry F.slot_enumerate_next hT F.entry_enumerate_next ?_ (F.args_enumerate_next_1 _))))
    show wpAny _ _ (field (.ref e) 2 >>= _) _ _ _; refine wpAny_bind (wpAny_field he rfl (x := .ref it) rfl ?_)
    refine wpAny_bind (XF.nextT_end (show X.A.in1.handled = none from I.ok.hd hc) hit p (by simp; omega) fun h' x eb hx' => ?_)
    obtain ⟨o, ho, hc'⟩ := hx'
    refine wpAny_bind (wpAny_isInstance (T := "StopIteration") (b := true) ⟨o, ho, hc'⟩ isSubtype_stop (wpAny_pure ?_))
    exact ⟨rfl, I.turned (t' := s.toks) (fun b o hb q => eb b o hb q) f0 f1 f3 f4 f5⟩
  self := fun A i s Q E st h => let ⟨⟨_, he⟩, _⟩ := st; wpAny_pyIter_enum he h
def iEnumT (K : PySem.W.Frag) (ta : TA) : TI := fun σ H R => ta σ H fun vs H1 => ∃ a xs, vs = [.ref a] ∧ SqT K H1 a xs ∧ R (IteT K a) H1
theorem pi_enumT {X : Cx} {e : Expr} {ta : TA} {p pos tpos : Pos} {elts : List Expr} {kk : Nat} (hg : Gl X "enumerate") (hm : X.mg "enumerate" = none) (ha : PA X [e] ta) (hs : starEach [e] X.env = [(false, eval e X.env)] := by rfl) :
    PI X (.Tuple elts kk tpos) (.Call (.Name "enumerate" p) [e] [] pos) (iEnumT X.K ta) := by
  intro pins s σ H R I h
  refine Call_ (ld_blt I hg hm boot_enumerate (PyProof.Rows.callWith_type1 (thn (ha pos pins s σ H _ I h) fun us s1 hq9 => ?_) hs rfl))
  obtain ⟨vs, H1, I1, r1, q1⟩ := hq9
  obtain ⟨a, xs, ex, hq, q⟩ := q1
  subst ex
  cases r1 with
  | cons r rr =>
    cases rr
    cases r
    obtain ⟨its, rv, p', hz⟩ := I1.tuple hq
    refine XF.call_enumT p' fun h' he hit hk => wpAny_pyIter_enum he ?_
    have I2 : Inv X pins σ H1 { s1 with heap := h' } := I1.kept (t' := s1.toks) hk
    refine ⟨s1.heap.objs.size + 1, [s1.heap.objs.size + 1, s1.heap.objs.size], _, _, H1, rfl, I2, turn_enumT a (s1.heap.objs.size + 1) s1.heap.objs.size, ⟨⟨.none, he⟩, hit, Nat.succ_ne_self _⟩, fun b hb => ?_, q⟩
    have e' : b = s1.heap.objs.size + 1 ∨ b = s1.heap.objs.size := by simpa using hb
    have hle : s1.heap.objs.size ≤ b := by
      rcases e' with z | z
      · rw [z]; exact Nat.le_add_right _ _
      · rw [z]; exact Nat.le_refl _
    exact I1.fpOk hle (I1.hok.fresh hle)
theorem for_enumT {K : PySem.W.Frag} {a : Addr} {xs : List V} {g : TG} {tb : TS} {D : Ends} {σ : St} {H : Hp} (Pv : Nat → St → Hp → Prop) (h0 : Pv 0 σ H) (hl : ∀ i σ H, i ≤ xs.length → Pv i σ H → SqT K H a xs)
    (hs : ∀ i x σ H T, xs[i]? = some x → Pv i σ H → H T = none → g (.ref T) σ (upd H T (.tup [.int (i : Nat), x])) fun σ2 H2 => tb { D with nx := Pv (i + 1), ct := Pv (i + 1), bk := D.nx } σ2 H2) (hd : ∀ σ H, Pv xs.length σ H → D.nx σ H) :
    ∃ W : Nat → Nat → St → Hp → Prop, (∃ m, W 0 m σ H) ∧ ∀ i m σ H, W i m σ H →
      ((IteT K a).stop i H ∧ D.nx σ H) ∨ ((IteT K a).go i H ∧ ∃ N : St → Hp → Prop, (∀ σ' H', N σ' H' → ∃ m', m' < m ∧ W (i + 1) m' σ' H') ∧ ∀ x H', (IteT K a).yld i H x H' → g x σ H' fun σ2 H2 => tb { D with nx := N, ct := N, bk := D.nx } σ2 H2) := by
  refine ⟨fun i m σ H => m = xs.length - i ∧ i ≤ xs.length ∧ Pv i σ H, ⟨xs.length, by simp, Nat.zero_le _, h0⟩, ?_⟩
  rintro i m σ H ⟨rfl, hi, p⟩
  have q := hl i σ H hi p
  by_cases hlt : i < xs.length
  · refine .inr ⟨⟨xs, xs[i], q, by simp [hlt]⟩, Pv (i + 1), fun σ' H' p' => ⟨xs.length - (i + 1), by omega, rfl, hlt, p'⟩, fun x H' y => ?_⟩
    obtain ⟨T, z, e, hT, e2, y⟩ := y
    subst e e2
    exact hs i z σ _ T (y xs q) p hT
  · have e : i = xs.length := by omega
    subst e
    exact .inl ⟨⟨xs, q, Nat.le_refl _⟩, hd σ H p⟩
/-! ### two lists of whole numbers -/
def rEqI (K : PySem.W.Frag) : R2 := fun x y H Q => ∃ (p q : Addr) (ns ms : List Int), x = .ref p ∧ y = .ref q ∧ SqL K H p (ns.map V.int) ∧ SqL K H q (ms.map V.int) ∧ Q (.bl (decide (ns = ms))) H
theorem op_eqI {X : Cx} (hu : X.A.units + 64 < cLine) : OpR X (compareOp .Eq) (rEqI X.K) := by
  intro pins s σ H x y v u Q I rx ry h
  obtain ⟨p, q, ns, ms, rfl, rfl, h1, h2, k⟩ := h
  cases rx
  cases ry
  obtain ⟨i1, r1, l1, _⟩ := I.list h1
  obtain ⟨i2, r2, l2, _⟩ := I.list h2
  exact PySem.W.eq_intsK l1.isList r1.ints l2.isList r2.ints hu ⟨.bl _, H, I, rfl, k⟩
/-! ### a comprehension over a text -/
theorem lc_str {x : Str} {g : TG} {tt : TT} {te : TE} {vs : List Nat} {σ : St} {H1 : Hp} {D : Addr} {Qd : Hp → Prop} (Pv : Nat → Hp → Prop) (h0 : Pv 0 (upd H1 D (.lst [])))
    (hs : ∀ i c H, x.cps[i]? = some c → Pv i H → g (.str ⟨#[c]⟩) (wipe σ vs) H fun σ2 H2 => wipe σ2 vs = wipe σ vs ∧ tt σ2 H2 fun b H3 =>
      if b = true then te σ2 H3 fun y H4 => ∃ acc, H4 D = some (.lst acc) ∧ acc.length < sizeLine ∧ Pv (i + 1) (upd H4 D (.lst (acc ++ [y]))) else Pv (i + 1) H3) (hd : ∀ H, Pv x.cps.size H → Qd H) :
    ∃ W : Nat → Nat → Hp → Prop, (∃ m, W 0 m (upd H1 D (.lst []))) ∧ ∀ i m H, W i m H →
      ((Its x).stop i H ∧ Qd H) ∨ ((Its x).go i H ∧ ∃ Nx : Hp → Prop, (∀ H', Nx H' → ∃ m', m' < m ∧ W (i + 1) m' H') ∧ ∀ y H', (Its x).yld i H y H' → g y (wipe σ vs) H' fun σ2 H2 => wipe σ2 vs = wipe σ vs ∧ tt σ2 H2 fun b H3 =>
        if b = true then te σ2 H3 fun y H4 => ∃ acc, H4 D = some (.lst acc) ∧ acc.length < sizeLine ∧ Nx (upd H4 D (.lst (acc ++ [y]))) else Nx H3) := by
  refine ⟨fun i m H => m = x.cps.size - i ∧ i ≤ x.cps.size ∧ Pv i H, ⟨x.cps.size, by simp, Nat.zero_le _, h0⟩, ?_⟩
  rintro i m H ⟨rfl, hi, p⟩
  by_cases hlt : i < x.cps.size
  · refine .inr ⟨hlt, Pv (i + 1), fun H' p' => ⟨x.cps.size - (i + 1), by omega, rfl, hlt, p'⟩, fun z H' y => ?_⟩
    obtain ⟨e, c, hc, rfl⟩ := y
    subst e
    exact hs i c _ hc p
  · have e : i = x.cps.size := by omega
    subst e
    exact .inl ⟨Nat.le_refl _, hd H p⟩
end L2
set_option maxRecDepth 100000
set_option maxHeartbeats 4000000
set_option linter.all false
namespace XF
open PySem
section
variable {M : Model} {A : Around} {E : Value → Shared → Prop} {s : Shared}
/-- as land_up, the entry told -/
theorem land2 {e : Addr} {c : Value} {d : Option Addr} {fl : Value} {T : Addr} {Q : Unit → Shared → Prop}
    (U : ∃ oe vs oT ts, s.heap.get? e = some oe ∧ oe.cls = c ∧ oe.dict = d ∧ oe.data = .fields vs ∧ vs[1]? = some (.ref T) ∧ T ≠ e ∧ s.heap.get? T = some oT ∧ oT.data = .fields ts ∧ ts[3]? = some fl)
    (k : ∀ h', (∀ b o, s.heap.get? b = some o → b ≠ T → h'.get? b = some o) → (∀ o, s.heap.get? T = some o → ∃ o', h'.get? T = some o') →
      (∃ oe vs oT ts, h'.get? e = some oe ∧ oe.cls = c ∧ oe.dict = d ∧ oe.data = .fields vs ∧ vs[1]? = some (.ref T) ∧ T ≠ e ∧ h'.get? T = some oT ∧ oT.data = .fields ts ∧ ts[3]? = some .none) → Q () { s with heap := h' }) :
    wpAny M A (setFlight (.ref e) none) Q E s := by
  obtain ⟨oe, vs, oT, ts, oeq, cq, dd, dq, v1, Te, qT, dT, t3⟩ := U
  have sz : 3 < ts.size := (Array.getElem?_eq_some_iff.mp t3).1
  unfold setFlight
  refine wpAny_bind (wpAny_field oeq dq v1 ?_)
  rw [if_pos (by simp)]
  have oth : ∀ b, b ≠ T → (s.heap.update T (Obj.mapFields (·.setIfInBounds 3 ((none : Option Addr).elim Value.none fun f => rawInt f)))).get? b = s.heap.get? b := fun b ne => Heap.get?_update_other _ _ fun z => ne z.symm
  have at_T := Heap.get?_update_self (h := s.heap) (Obj.mapFields (·.setIfInBounds 3 ((none : Option Addr).elim Value.none fun f => rawInt f))) qT (Obj.isFreed_of_fields (Obj.data_mapFields dT _))
  refine wpAny_setField qT dT sz (k _ (fun b o q nT => (oth b nT).trans q) (fun o q => ⟨_, at_T⟩) ?_)
  exact ⟨oe, vs, _, _, (oth e (fun z => Te z.symm)).trans oeq, cq, dd, dq, v1, Te, at_T, Obj.data_mapFields dT _, by simp [sz]⟩
end
end XF
namespace L2
open PySem PySem.Spec PyProof.Rows
/-- of no one but the exception -/
def Frs (X : Cx) (pins : List (Addr × Obj)) (b : Addr) : Prop := X.s_0.heap.get? b = none ∧ b ≠ X.env.locals ∧ (∀ x c, X.env.cells.lookup x = some c → c ≠ b) ∧ ∀ p ∈ X.pn ++ pins, p.1 ≠ b
section
variable {X : Cx} {pins : List (Addr × Obj)} {σ : St} {H : Hp} {s : Shared} {h' : Heap} {t' : Nat}
theorem Inv.sw (I : Inv X pins σ H s) (Z : List Addr) (hZ : ∀ b ∈ Z, H b = none ∧ Frs X pins b)
    (k1 : ∀ b o, s.heap.get? b = some o → b ∉ frs X.stack → b ∉ Z → h'.get? b = some o) (k2 : ∀ b o, s.heap.get? b = some o → b ∈ frs X.stack → ∃ sl, h'.get? b = some { o with slots := sl }) : Inv X pins σ H { s with heap := h', toks := t' } := by
  have oldZ : ∀ b o, X.s_0.heap.get? b = some o → b ∉ Z := fun b o q z => by
    have := (hZ b z).2.1
    rw [q] at this; cases this
  have oldL : ∀ b o, X.s_0.heap.get? b = some o → b ≠ X.env.locals := fun b o q z => by
    have := Heap.lt_size q
    have h2 := I.ok.above
    rw [z] at this
    exact absurd this (Nat.not_lt.mpr h2)
  have any : ∀ b o, s.heap.get? b = some o → b ∉ Z → ∃ sl, h'.get? b = some { o with slots := sl } := fun b o q z => by
    by_cases m : b ∈ frs X.stack
    · exact k2 b o q m
    · exact ⟨o.slots, k1 b o q m z⟩
  have cellK : ∀ x c v, X.env.cells.lookup x = some c → s.heap.IsCell c v → h'.IsCell c v := fun x c v hc ⟨o, q, dq⟩ => by
    obtain ⟨sl, q'⟩ := any c o q (fun z => (hZ c z).2.2.2.1 x c hc rfl)
    exact ⟨_, q', dq⟩
  refine ⟨I.ok, I.os, I.bare, ⟨fun b o q n nf hx => ?_, fun b o q n mf hx => ?_, I.base.free, fun b o q hx => ?_, I.base.tups, I.base.frzs, I.base.tbls⟩, ?_, fun x c q => ?_, I.free, I.freeC, fun p hp => ?_, fun b u q => ?_, I.len⟩
  · refine k1 b o (I.base.keep b o q n nf hx) (fun z => ?_) (oldZ b o q)
    rcases List.mem_cons.mp (I.stkSub b z) with e | z
    · exact oldL b o q e
    · exact nf z
  · obtain ⟨sl, q1⟩ := I.base.slot b o q n mf hx
    obtain ⟨sl', q2⟩ := any b _ q1 (oldZ b o q)
    exact ⟨sl', q2⟩
  · obtain ⟨o', q1⟩ := I.base.there b o q hx
    obtain ⟨sl, q2⟩ := any b o' q1 (oldZ b o q)
    exact ⟨_, q2⟩
  · obtain ⟨m, ⟨o, es, ep, q, dq, sk, nf⟩, lk⟩ := I.loc
    obtain ⟨sl, q'⟩ := any _ o q (fun z => (hZ _ z).2.2.1 rfl)
    refine ⟨m, ⟨_, es, ep, q', dq, sk, nf⟩, fun i x v h1 h2 h3 => ?_⟩
    obtain ⟨u, ru, l⟩ := lk i x v h1 h2 h3
    refine ⟨u, ru, ?_⟩
    rcases l with l | ⟨l1, c, l2, l3⟩
    · exact .inl l
    · exact .inr ⟨l1, c, l2, cellK x c _ l2 l3⟩
  · obtain ⟨v, z⟩ := I.cell x c q
    exact ⟨v, cellK x c v q z⟩
  · obtain ⟨a1, a2, a3, a4, a5⟩ := I.pin p hp
    refine ⟨k1 _ _ a1 (fun z => ?_) (fun z => (hZ _ z).2.2.2.2 p hp rfl), a2, a3, a4, a5⟩
    rcases List.mem_cons.mp (I.stkSub _ z) with e | z
    · exact a3 e
    · exact a4 z
  · have tr : ∀ c, (c = b ∨ H c = some (.own b)) → H c ≠ none := fun c hc => by
      rcases hc with rfl | hc
      · rw [q]; simp
      · rw [hc]; simp
    exact (I.hok b u q).stay (fun c v hc r => k1 c v r (fun z => tr c hc (I.stkFree c z)) fun z => tr c hc (hZ c z).1) (fun _ y => y) fun _ _ y => y
theorem Inv.track {e : Addr} {o : HO} (I : Inv X pins σ H s) (he : H e = none) (fe : Frs X pins e) (ok : ObjOk X.prog X.w (upd H e o) s.heap e o) : Inv X pins σ (upd H e o) s := by
  have ne : ∀ b u, H b = some u → b ≠ e := fun b u q => ne_of_none q he
  refine ⟨I.ok, I.os, I.bare, ⟨I.base.keep, I.base.slot, fun b ob q n hx => ?_, I.base.there, fun b xs q => ?_, fun b ob u q => ?_, fun b ps q => ?_⟩, I.loc, I.cell, ?_, fun x c q => ?_, fun p hp => ?_, fun b u q => ?_, I.len⟩
  · rw [upd_ne (fun z => by rw [z, fe.1] at q; cases q)]
    exact I.base.free b ob q n hx
  · have := I.base.tups b xs q
    rw [upd_ne (ne _ _ this)]; exact this
  · have := I.base.frzs b ob u q
    rw [upd_ne (ne _ _ this)]; exact this
  · obtain ⟨more, this⟩ := I.base.tbls b ps q
    exact ⟨more, by rw [upd_ne (ne _ _ this)]; exact this⟩
  · rw [upd_ne fe.2.1.symm]; exact I.free
  · rw [upd_ne (fe.2.2.1 x c q)]; exact I.freeC x c q
  · obtain ⟨a1, a2, a3⟩ := I.pin p hp
    exact ⟨a1, by rw [upd_ne (fe.2.2.2 p hp)]; exact a2, a3⟩
  · by_cases z : b = e
    · subst z
      rw [upd_same] at q; cases q
      exact ok
    · rw [upd_ne z] at q
      refine (I.hok b u q).stay (fun _ _ _ r => r) (fun c r => ?_) fun c xs r => ?_
      · rw [upd_ne (ne _ _ r)]; exact r
      · rw [upd_ne (ne _ _ r)]; exact r
/-- the same elsewhere -/
theorem Cx.Ok.alike {A : Around} {calm : Bool} {pn : List (Addr × Obj)} {xe : Value → Shared → Prop} (o : X.Ok) (hf : A.frames = X.A.frames) (hd : calm = true → A.handled = none) : Cx.Ok { X with A := A, calm := calm, pn := pn, xe := xe } :=
  ⟨o.mod, o.kind, o.glob, o.blt, o.above, o.inj, o.has, o.cab, hd, by show A.frames = _; rw [hf]; exact o.frames, o.stk, o.exf, o.bs, o.bsz, o.noex, o.exfs, o.funs, o.frf⟩
theorem Inv.alike {A : Around} {calm : Bool} {xe : Value → Shared → Prop} (I : Inv X pins σ H s) (hf : A.frames = X.A.frames) (hd : calm = true → A.handled = none) : Inv { X with A := A, calm := calm, xe := xe } pins σ H s :=
  ⟨I.ok.alike (pn := X.pn) hf hd, I.os, I.bare, I.base, I.loc, I.cell, I.free, I.freeC, I.pin, I.hok, I.len⟩
/-- an exception has come to the try -/
def TryX (X : Cx) (pins : List (Addr × Obj)) (E' : XK) (x : Value) (s' : Shared) : Prop := ∃ (e C d T : Addr) (H' : Hp) (σ' : St), x = .ref e ∧ Inv X pins σ' H' s' ∧ H' e = none ∧ H' T = none ∧ Frs X pins e ∧ Frs X pins T ∧ XF.Up s'.heap e (.ref C) (some d) (fun b => b = T) ∧ E' (.ref C) (some d) H'
theorem pass_try {E' : XK} (hex : X.ex = []) (ok : X.Ok) : Passes (CXF X.prog X.w) { X with pn := X.pn ++ pins, xe := TryX X pins E' } E' := by
  rintro pins' σ1 H1 s1 x s' I1 ⟨e, C, d, H', rfl, os, bare, un, hok, he, hn, U, hE⟩
  have I' : Inv { X with pn := X.pn ++ pins, xe := TryX X pins E' } pins' σ1 H' s' := I1.call' os un hok bare (ch := []) (fun b z => absurd z (by simp))
  have I2 : Inv X pins σ1 H' s' := ⟨ok, I'.os, I'.bare, I'.base, I'.loc, I'.cell, I'.free, I'.freeC, fun p hp => I'.pin p (List.mem_append_left _ hp), I'.hok, I'.len⟩
  have fr : ∀ b, s1.heap.get? b = none → Frs X pins b := fun b hb => by
    refine ⟨?_, fun z => ?_, fun x c hc z => ?_, fun p hp z => ?_⟩
    · cases q : X.s_0.heap.get? b with
      | none => rfl
      | some o =>
        obtain ⟨o', y⟩ := I1.base.there b o q (by show b ∉ X.ex; rw [hex]; simp)
        rw [hb] at y; cases y
    · obtain ⟨m, ⟨o, _, _, q, _⟩, _⟩ := I1.loc
      have q' : s1.heap.get? X.env.locals = some o := q
      rw [← z, hb] at q'; cases q'
    · obtain ⟨v, o, q, _⟩ := I1.cell x c hc
      rw [z, hb] at q; cases q
    · have := (I1.pin p (List.mem_append_left _ hp)).1
      rw [z, hb] at this; cases this
  obtain ⟨oe, vs, a1, a2, a3, a4, w⟩ := U
  rcases w with v1 | ⟨T, oT, ts, v1, ⟨hT, hTn⟩, Te, qT, dT, t3⟩
  · exact ⟨e, C, d, e, H', σ1, rfl, I2, he, he, fr e hn, fr e hn, ⟨oe, vs, a1, a2, a3, a4, .inl v1⟩, hE⟩
  · exact ⟨e, C, d, T, H', σ1, rfl, I2, he, hT, fr e hn, fr T hTn, ⟨oe, vs, a1, a2, a3, a4, .inr ⟨T, oT, ts, v1, rfl, Te, qT, dT, t3⟩⟩, hE⟩
end
def tTry0 (C : Addr) (n : Nat) (tb : XK → TS) (th : TS) : TS := fun D σ H => tb (fun c dx H' => c = .ref C ∧ ∃ d, dx = some d ∧ ∀ (e : Addr) (σ' : St), σ'.length = n → H' e = none → th { nx := fun _ _ => False, rt := D.rt } σ' (upd H' e (XC e C d))) D σ H
section
variable {X : Cx} {pins : List (Addr × Obj)} {σ : St} {H : Hp} {s : Shared} {C fI : Addr} {i : Nat} {x y : Str} {body suite : List Stmt} {b₀ : Stmt} {np hpos pos : Pos} {tb : XK → TS} {th : TS}
theorem try_land (hst : X.stack = X.env :: X.outer) (hfr : X.env.frame = some X.env.locals) {e C' d T : Addr} {E : Value → Shared → Prop} {Q : Shared → Prop} (I : Inv X pins σ H s) (he : H e = none) (hT : H T = none) (fe : Frs X pins e) (fT : Frs X pins T) (U : XF.Up s.heap e (.ref C') (some d) (fun b => b = T))
    (k : ∀ (h2 : Heap) (T2 : Addr), H T2 = none → Frs X pins T2 → (∃ oe vs oT ts, h2.get? e = some oe ∧ oe.cls = .ref C' ∧ oe.dict = some d ∧ oe.data = .fields vs ∧ vs[1]? = some (.ref T2) ∧ T2 ≠ e ∧ h2.get? T2 = some oT ∧ oT.data = .fields ts ∧ ts[3]? = some .none) → Inv X pins σ H { s with heap := h2 } → Q { s with heap := h2 }) :
    wpAny (model X.prog X.w) X.A (noteFrame (.ref e) X.env) (fun _ s₂ => wpAny (model X.prog X.w) X.A (setFlight (.ref e) none) (fun _ s₃ => Q s₃) E s₂) E s := by
  refine XF.note_up (base := X.base) (outer := X.outer) (by rw [I.ok.frames, hst]) (by rw [← hst]; exact I.stack) hfr U fun h1 k1 k2 hq9 => ?_
  obtain ⟨oe, vs, T2, oT, ts, a1, a2, a3, a4, a5, a6, a7, a8, a9, a10⟩ := hq9
  refine XF.land2 (s := { s with heap := h1 }) (T := T2) ⟨oe, vs, oT, ts, a1, a2, a3, a4, a5, a7, a8, a9, a10⟩ fun h2 l1 l2 u => ?_
  have big : ∀ b o, s.heap.get? b = some o → b ≠ T2 := fun b o q z => by
    have := Heap.lt_size q
    rw [z] at this
    exact absurd this (Nat.not_lt.mpr a6)
  have fT2 : Frs X pins T2 := by
    refine ⟨Heap.get?_none_of_le (Nat.le_trans I.sz a6), fun z => ?_, fun x c hc z => ?_, fun p hp z => ?_⟩
    · obtain ⟨m, ⟨o, _, _, q, _⟩, _⟩ := I.loc
      exact big _ o q z.symm
    · obtain ⟨v, o, q, _⟩ := I.cell x c hc
      exact big c o q z
    · exact big _ _ (I.pin p hp).1 z
  have st : frs X.stack = (X.env :: X.outer).filterMap (·.frame) := by rw [hst]; rfl
  have kb : ∀ b o, s.heap.get? b = some o → b ∉ frs X.stack → b ∉ [e, T] → h2.get? b = some o := fun b o q nf nz => by
    refine l1 b o (k1 b o q (by rw [← st]; exact nf) (fun z => nz (by simp [z])) (fun z => nz (by simp [z]))) (big b o q)
  have ks : ∀ b o, s.heap.get? b = some o → b ∈ frs X.stack → ∃ sl, h2.get? b = some { o with slots := sl } := fun b o q mf => by
    obtain ⟨sl, q'⟩ := k2 b o q (by rw [← st]; exact mf)
    exact ⟨sl, l1 b _ q' (big b o q)⟩
  refine k h2 T2 (I.hok.fresh a6) fT2 u (I.sw [e, T] (fun b hb => ?_) kb ks)
  rcases List.mem_cons.mp hb with rfl | hb
  · exact ⟨he, fe⟩
  · rw [List.mem_singleton.mp hb]; exact ⟨hT, fT⟩
/-- the clause takes it; the suite begins, e tracked -/
theorem try_take (T0 : XCls X.K C fI) {e d T2 : Addr} {E : Value → Shared → Prop} {Q : Flow → Shared → Prop} {nm : Option Str} {rest : List ExceptHandler} (hg : Gl X x) (hm : X.mg x = some (.ref C)) (hdb : (x == ("__debug__" : Str)) = false) {h2 : Heap} (I : Inv X pins σ H { s with heap := h2 })
    (u : ∃ oe vs oT ts, h2.get? e = some oe ∧ oe.cls = .ref C ∧ oe.dict = some d ∧ oe.data = .fields vs ∧ vs[1]? = some (.ref T2) ∧ T2 ≠ e ∧ h2.get? T2 = some oT ∧ oT.data = .fields ts ∧ ts[3]? = some .none)
    (k : codeAny (model X.prog X.w) (X.A.mark (some (.ref e))) (.handlers (.ref e) [.ExceptHandler none nm suite hpos] X.env) (fun r s₂ => match r with
          | .ok f => (match (generalizing := false) nm with
            | none => Q f s₂
            | some n => wpAny (model X.prog X.w) X.A (do bindName X.env n .none; unbindBehindTheSuite X.env n hpos) (fun _ s₃ => Q f s₃) E s₂)
          | .error x => cameBackBy (model X.prog X.w) X.A X.env E x s₂) { s with heap := h2 }) :
    wpAny (model X.prog X.w) X.A (handleBy (.ref e) X.env (.ExceptHandler (some (.Name x np)) nm suite hpos :: rest)) Q E { s with heap := h2 } := by
  refine wpAny_handleBy_cons (codeAny_handlers_test ?_) (by intro q; cases q)
  have I2 : Inv { X with A := X.A.mark (some (.ref e)), calm := false } pins σ H { s with heap := h2 } := I.alike rfl (fun z => by cases z)
  refine ld_glob (X := { X with A := X.A.mark (some (.ref e)), calm := false }) I2 hg hm ?_ hdb
  obtain ⟨cn, qn, Nn, bs, sn, sub, ab, col, dd, k0, k1, k2, k3, k5, mN, hC, _⟩ := T0.at_ _ I.kIn
  obtain ⟨oe, vs, oT, ts, a1, a2, a3, a4, a5, a6, a7⟩ := u
  exact wpAny_excMatches_sub_self hC a1 a2 (by decide) k
/-- the exception is tracked from here on -/
theorem try_held {e d T2 : Addr} {h2 h4 : Heap} {A : Around} {calm : Bool} {xe : Value → Shared → Prop} (hf : A.frames = X.A.frames) (hd : calm = true → A.handled = none) (I : Inv X pins σ H { s with heap := h2 }) (he : H e = none) (fe : Frs X pins e) (hT : H T2 = none) (fT : Frs X pins T2)
    (l1 : ∀ b o, h2.get? b = some o → b ≠ T2 → h4.get? b = some o)
    (u : ∃ oe vs oT ts, h4.get? e = some oe ∧ oe.cls = .ref C ∧ oe.dict = some d ∧ oe.data = .fields vs ∧ vs[1]? = some (.ref T2) ∧ T2 ≠ e ∧ h4.get? T2 = some oT ∧ oT.data = .fields ts ∧ ts[3]? = some .none) :
    Inv { X with A := A, calm := calm, xe := xe } pins σ (upd H e (XC e C d)) { s with heap := h4 } := by
  have I3 : Inv X pins σ H { s with heap := h4 } := I.sw (s := { s with heap := h2 }) [T2] (fun b hb => by rw [List.mem_singleton.mp hb]; exact ⟨hT, fT⟩) (fun b o q _ nz => l1 b o q (fun z => nz (by simp [z]))) fun b o q mf => ⟨o.slots, l1 b o q (fun z => by
    have h1 := I.stkSub b mf
    rw [z] at h1 mf
    rcases List.mem_cons.mp h1 with y | y
    · exact fT.2.1 y
    · obtain ⟨_, o', ho', _⟩ := I.ok.funs.mem y
      rw [fT.1] at ho'; cases ho')⟩
  obtain ⟨oe, vs, oT, ts, a1, a2, a3, a4, _⟩ := u
  exact (I3.track he fe (XC.ok a1 a2 a3 a4)).alike hf hd
theorem ps_try0 (hst : X.stack = X.env :: X.outer) (hfr : X.env.frame = some X.env.locals) (hex : X.ex = []) (T0 : XCls X.K C fI) (hg : Gl X x) (hm : X.mg x = some (.ref C))
    (hb : ∀ (pn' : List (Addr × Obj)) (xe' : Value → Shared → Prop) (E' : XK), Passes (CXF X.prog X.w) { X with pn := pn', xe := xe' } E' → PSs { X with pn := pn', xe := xe' } body (tb E'))
    (hs : ∀ (e : Addr) (xe' : Value → Shared → Prop), PSs { X with A := X.A.mark (some (.ref e)), calm := false, xe := xe' } (b₀ :: suite) th) (hdb : (x == ("__debug__" : Str)) = false := by decide) :
    PS X (.Try body [.ExceptHandler (some (.Name x np)) none (b₀ :: suite) hpos] [] [] pos) (tTry0 C X.N.length tb th) := by
  intro pins s σ H D I h
  have I' : Inv { X with pn := X.pn ++ pins, xe := TryX X pins (fun c dx H' => c = .ref C ∧ ∃ d, dx = some d ∧ ∀ (e : Addr) (σ' : St), σ'.length = X.N.length → H' e = none → th { nx := fun _ _ => False, rt := D.rt } σ' (upd H' e (XC e C d))) } [] σ H s :=
    ⟨I.ok.alike (pn := X.pn ++ pins) rfl I.ok.hd, I.os, I.bare, I.base, I.loc, I.cell, I.free, I.freeC, fun p hp => I.pin p (by rw [List.append_nil] at hp; exact hp), I.hok, I.len⟩
  have back : ∀ σ' H' s', Inv { X with pn := X.pn ++ pins, xe := TryX X pins (fun c dx H' => c = .ref C ∧ ∃ d, dx = some d ∧ ∀ (e : Addr) (σ' : St), σ'.length = X.N.length → H' e = none → th { nx := fun _ _ => False, rt := D.rt } σ' (upd H' e (XC e C d))) } [] σ' H' s' → Inv X pins σ' H' s' := fun σ' H' s' J =>
    ⟨I.ok, J.os, J.bare, J.base, J.loc, J.cell, J.free, J.freeC, fun p hp => J.pin p (List.mem_append_left _ hp), J.hok, J.len⟩
  refine wpAny_Try_except (wpAny_mono (hb _ _ _ (pass_try hex I.ok) [] s σ H D I' h) (fun f s1 q => ?_) fun v s1 q => ?_)
  · cases f with
    | next =>
      obtain ⟨σ1, H1, J, z⟩ := q
      show wpAny _ _ (execs [] X.env) _ _ s1
      show wpAny _ _ (pure Flow.next) _ _ s1
      exact wpAny_pure ⟨σ1, H1, back _ _ _ J, z⟩
    | brk => obtain ⟨σ1, H1, J, z⟩ := q; exact ⟨σ1, H1, back _ _ _ J, z⟩
    | cont => obtain ⟨σ1, H1, J, z⟩ := q; exact ⟨σ1, H1, back _ _ _ J, z⟩
    | ret u => obtain ⟨w, σ1, H1, J, r1, z⟩ := q; exact ⟨w, σ1, H1, back _ _ _ J, r1, z⟩
  · obtain ⟨e, C', d, T, H', σ', rfl, J, he, hT, fe, fT, U, eC, d', hd', hE⟩ := q
    cases hd'
    injection eC with eC
    subst eC
    refine try_land hst hfr J he hT fe fT U fun h2 T2 hT2 fT2 u J2 => ?_
    refine try_take T0 hg hm hdb J2 u (codeAny_handlers_suite ?_)
    refine XF.land2 (s := { s1 with heap := h2 }) u fun h4 l1 _ u4 => ?_
    refine thn (hs e _ pins _ _ _ { nx := fun _ _ => False, rt := D.rt } (try_held rfl (fun z => by cases z) J2 he fe hT2 fT2 l1 u4) (hE e σ' J.len he)) fun f s6 q => ?_
    cases f with
    | next => obtain ⟨_, _, _, z⟩ := q; exact z.elim
    | brk => obtain ⟨_, _, _, z⟩ := q; exact z.elim
    | cont => obtain ⟨_, _, _, z⟩ := q; exact z.elim
    | ret w =>
      obtain ⟨v, σ6, H6, I7, rv, z⟩ := q
      exact ⟨v, σ6, H6, ⟨I.ok, I7.os, I7.bare, I7.base, I7.loc, I7.cell, I7.free, I7.freeC, I7.pin, I7.hok, I7.len⟩, rv, z⟩
end
end L2
set_option maxRecDepth 100000
set_option maxHeartbeats 4000000
set_option linter.all false
namespace L2
open PySem PySem.Spec PyProof.Rows PySem.W
/-! ### functions made while the program runs -/
/-- a function's object, its code's object -/
def FnO (f : Addr) (fd : FuncData) : HO := .ext fun h => h.get? f = some { cls := .type "function", data := .func fd }
def CdO (c : Addr) (q : Str) : HO := .ext fun h => ∃ oc vs t, h.get? c = some oc ∧ oc.data = .fields vs ∧ vs[1]? = some (.str q t)
section
variable {P : Program} {w : World} {H : Hp} {h : Heap} {f c : Addr} {fd : FuncData} {q : Str}
theorem FnO.get (ok : HOk P w H h) (e : H f = some (FnO f fd)) : h.get? f = some { cls := .type "function", data := .func fd } := (ok f _ e).1
theorem CdO.get (ok : HOk P w H h) (e : H c = some (CdO c q)) : h.CodeRec (.ref c) q := by
  obtain ⟨oc, vs, t, h1, h2, h3⟩ := (ok c _ e).1
  exact ⟨c, oc, vs, t, rfl, h1, h2, h3⟩
theorem FnO.ok (e : h.get? f = some { cls := .type "function", data := .func fd }) : ObjOk P w H h f (FnO f fd) := ⟨e, ⟨_, e⟩, fun h1 h2 z k => k _ z⟩
theorem CdO.ok (e : h.CodeRec (.ref c) q) : ObjOk P w H h c (CdO c q) := by
  obtain ⟨c', oc, vs, t, z, h1, h2, h3⟩ := e
  cases z
  exact ⟨⟨oc, vs, t, h1, h2, h3⟩, ⟨_, h1⟩, fun g1 g2 ⟨oc, vs, t, h1, r⟩ k => ⟨oc, vs, t, k _ h1, r⟩⟩
end
/-- a def whose code is known -/
theorem Fun.okC {P : Program} {w : World} {K : PySem.W.Frag} {mg : Str → Option Value} {base : Heap} {x qual : Str} {st : Stmt} {f : Addr} {fd : FuncData} {N ps : List Str} {k : Nat} {sp : Sp} (F : Fun K x qual st f fd) (S : FnScope N ps (defScope st)) (len : ∀ vs H Q E, sp vs H Q E → vs.length = ps.length)
    (hbody : ∀ (A : Around) (outer : List Env) (s : Shared) (H : Hp) (vs : List V) (Q : VK) (E : XK), Room k (A.deeper (PyProof.Rows.envOfC qual (defScope st) s.heap.objs.size f fd.code)) → sp vs H Q E →
      ∃ t, PSs (cxOf CX0 P w K mg base N qual (defScope st) f fd.code A outer s H E) (defBody st) t ∧ t { nx := fun _ H' => Q .non H', rt := Q } (start N vs) H) : FnOk P w K mg base CX0 (k + 1) f fd ps sp := by
  obtain ⟨oc, od, kV, doc, pm, an, cdv, ct, osl, rfl, lk, hcd⟩ := F.ex
  exact fn_of lk hcd S len fun A outer s H vs Q E hr hsp => hbody A outer s H vs Q E hr hsp
/-- lambda ..: .. , met for the first time -/
def tLam (mg : Str → Option Value) (P : Addr) (qual : Str) (params : Arguments) (body : Expr) (scope : Scope) (clos : List (Str × Addr)) (pos : Pos) : TE := fun σ H Q => ∃ ps, H P = some (.tbl ps) ∧ TriplesOk ps.toList ∧ codeAmong pos ps.toList = none ∧
  ∀ (f c' : Addr) (ctv : Value), H f = none → H c' = none → f ≠ c' → Q (.ref f) (upd (upd (upd H P (.tbl (ps ++ #[rawInt pos.line, rawInt pos.col, .ref c']))) c' (CdO c' qual)) f (FnO f (kla_fn "<lambda>" qual params body scope clos ((mg "__name__").getD .none) (.ref c') ctv)))
section
variable {X : Cx} {c P : Addr} {params : Arguments} {body : Expr} {scope : Scope} {clos : List (Str × Addr)} {pos : Pos}
theorem pe_lam (hcode : X.env.code = .ref c) (C : CodeHd X.base c P) (hB : X.base.BuiltinsAt X.mg P) (hdef : defaultsOf params X.env = ([], [])) (hcl : closureFor scope X.env = pure clos) : PE X (.Lambda params body scope pos) (tLam X.mg P (X.env.qual ++ "<lambda>") params body scope clos pos) := by
  intro pins s σ H Q I h
  obtain ⟨ps, hP, ht, hn, q⟩ := h
  have hPh : s.heap.get? P = some (tabObj ps) := I.hok P _ hP
  obtain ⟨bm, ob, b1, b2, b3, b4, b5, b6⟩ := hB
  have gP : mainGlobals ≠ P := fun z => by
    obtain ⟨o, es, ep, e, _⟩ := I.mod.glob
    have := (I.bs _ _ e).2
    rw [z, hP] at this; cases this
  refine kla_eval hdef (kla_makeFunction (mg := X.mg) hcl I.ok.glob (I.mod.glob.keeps I.bk) hcode (C.keeps I.bk) hPh ht hn gP ⟨bm, ob, b1, b2, b3, b4, I.bk _ _ b5, b6⟩ fun c' ctv h' tk hx hge hlt hrec htb => ?_)
  have hPlt := Heap.lt_size hPh
  have hf0 : H h'.objs.size = none := I.hok.fresh (Nat.le_trans hge (Nat.le_of_lt hlt))
  have hc0 : H c' = none := I.hok.fresh hge
  have nfc : h'.objs.size ≠ c' := Nat.ne_of_gt hlt
  have nfP : h'.objs.size ≠ P := Nat.ne_of_gt (Nat.lt_trans (Nat.lt_of_lt_of_le hPlt hge) hlt)
  have ncP : c' ≠ P := Nat.ne_of_gt (Nat.lt_of_lt_of_le hPlt hge)
  have lo : ∀ b o, s.heap.get? b = some o → b ≠ c' ∧ b ≠ h'.objs.size := fun b o e => ⟨Nat.ne_of_lt (Nat.lt_of_lt_of_le (Heap.lt_size e) hge), Nat.ne_of_lt (Nat.lt_trans (Nat.lt_of_lt_of_le (Heap.lt_size e) hge) hlt)⟩
  have kp : ∀ b o, b ≠ P → s.heap.get? b = some o → (h'.push (kla_obj "<lambda>" (X.env.qual ++ "<lambda>") params body scope clos ((X.mg "__name__").getD .none) c' ctv)).get? b = some o := fun b o n e => Heap.get?_push_of_some _ (hx b o n e)
  have ne : ∀ b u, H b = some u → b ≠ P → upd (upd (upd H P (.tbl (ps ++ #[rawInt pos.line, rawInt pos.col, .ref c']))) c' (CdO c' (X.env.qual ++ "<lambda>"))) h'.objs.size (FnO h'.objs.size (kla_fn "<lambda>" (X.env.qual ++ "<lambda>") params body scope clos ((X.mg "__name__").getD .none) (.ref c') ctv)) b = some u := fun b u e n => by
    rw [upd_ne (ne_of_none e hf0), upd_ne (ne_of_none e hc0), upd_ne n]; exact e
  refine ⟨.ref h'.objs.size, _, ?_, rfl, q h'.objs.size c' ctv hf0 hc0 nfc⟩
  refine I.step (g' := s.gens) (d' := s.drawn) (ch := []) (fun b z => absurd z (by simp)) (fun b o _ _ _ e n => kp b o (fun z => by rw [z, hP] at n; cases n) e) (fun b o _ _ _ e n => ⟨o.slots, kp b o (fun z => by rw [z, hP] at n; cases n) e⟩)
    (fun b o _ e n => ?_) (fun b o _ e => ?_) (fun b xs e => ne b _ e (fun z => by rw [z, hP] at e; cases e)) (fun b o u e => ne b _ e (fun z => by rw [z, hP] at e; cases e)) (fun b ps' e => ?_) (fun m hm => ?_) (fun b u e => ?_) I.bare
  · rw [upd_ne (lo b o e).2, upd_ne (lo b o e).1, upd_ne (fun z => by rw [z, hP] at n; cases n)]
    exact n
  · by_cases z : b = P
    · rw [z]; exact ⟨_, Heap.get?_push_of_some _ htb⟩
    · exact ⟨o, kp b o z e⟩
  · by_cases z : b = P
    · subst z
      rw [hP] at e; cases e
      exact ⟨_, by rw [upd_ne nfP.symm, upd_ne ncP.symm, upd_same]⟩
    · exact ⟨#[], by rw [ne b _ e z]; simp⟩
  · obtain ⟨o, es, ep, ho, r⟩ := hm
    exact ⟨o, es, ep, kp _ o (fun z => by have := I.free; rw [z, hP] at this; cases this) ho, r⟩
  · by_cases z1 : b = h'.objs.size
    · subst z1
      rw [upd_same] at e; cases e
      exact FnO.ok (Heap.get?_push_size _ rfl)
    · rw [upd_ne z1] at e
      by_cases z2 : b = c'
      · subst z2
        rw [upd_same] at e; cases e
        exact CdO.ok (hrec.push _)
      · rw [upd_ne z2] at e
        by_cases z3 : b = P
        · subst z3
          rw [upd_same] at e; cases e
          exact Heap.get?_push_of_some _ htb
        · rw [upd_ne z3] at e
          refine (I.hok b u e).stay (fun c v hc r => kp c v ?_ r) (fun c r => ne c _ r (fun z => by rw [z, hP] at r; cases r)) fun c xs r => ne c _ r (fun z => by rw [z, hP] at r; cases r)
          rcases hc with rfl | hc
          · exact z3
          · exact fun z => by rw [z, hP] at hc; cases hc
end
/-- a lambda runs that has no name of its maker's -/
theorem lam_run {P : Program} {w : World} {K : PySem.W.Frag} {mg : Str → Option Value} {base : Heap} {N ps : List Str} {k : Nat} {f c' : Addr} {qual : Str} {params : Arguments} {body : Expr} {scope : Scope} {pm ctv : Value} {A : Around} {outer : List Env} {s : Shared} {H : Hp} {us : List Value} {vs : List V} {Q : VK} {E : XK}
    (S : FnScope N ps scope) (hb : ∀ us : List Value, us.length = ps.length → bindArgs (kla_fn "<lambda>" qual params body scope [] pm (.ref c') ctv) ⟨us, []⟩ = pure (ps.zip us)) (hF : H f = some (FnO f (kla_fn "<lambda>" qual params body scope [] pm (.ref c') ctv))) (hC : H c' = some (CdO c' qual))
    (hr : Room (k + 1) A) (e0 : Env0 P w K mg base A outer s H) (r : Vals vs us) (hl : vs.length = ps.length)
    (hbody : ∀ (A : Around) (outer : List Env) (s : Shared), Room k (A.deeper (envOfC qual scope s.heap.objs.size f (.ref c'))) → ∃ t, PE (cxOf CX0 P w K mg base N qual scope f (.ref c') A outer s H E) body t ∧ t (start N vs) H Q) : codeAny (model P w) A (.call (.ref f) ⟨us, []⟩) (CR CX0 outer P w H s Q E) s := by
  have lim : s.heap.NoLimit := e0.mod.nolimit.keeps fun b o e => (e0.bs b o e).1
  have hkind : ∀ y ∈ ps.zip us, scope.names.lookup y.1 = some .local ∨ (scope.names.lookup y.1 = some .cell ∧ ((cellsFrom (s.heap.objs.size + 1) scope.names []).lookup y.1).isSome = true) := fun ⟨n, v⟩ hy => by
    rcases S.par n (List.of_mem_zip hy).1 with q | q
    · exact .inl q
    · exact .inr ⟨q, PySem.W.cellsFrom_some _ _ _ (.inl q)⟩
  refine kla_callFunE hr.depth (FnO.get e0.hok hF) rfl S.co S.gen rfl (CdO.get e0.hok hC) ?_
  rw [hb us (by rw [← r.length]; exact hl)]
  refine wpAny_pure (wpAny_newFunctionEnv_cells S.kind hkind fun env he s1 x => ?_)
  subst he
  refine ⟨lim.keeps x.toInCall.keep, kla_codeExpr ?_⟩
  obtain ⟨t, ht, hq⟩ := hbody A outer s (hr.deeper _)
  have I : Inv (cxOf CX0 P w K mg base N qual scope f (.ref c') A outer s H E) [] (start N vs) H s1 := inv_start S hr.hd e0 hl r x
  exact wpAny_mono (ht [] s1 (start N vs) H Q I hq) (fun u s' ⟨v, H', J, rv, q⟩ => ⟨v, H', J.os, J.bare, J.base, J.hok, rv, q⟩) fun e s' hs => hs
/-- a value that is a function's is called -/
def tCallV (P : Program) (w : World) (K : PySem.W.Frag) (mg : Str → Option Value) (base : Heap) (k : Nat) (ta : TE) (t : TA) : TE := fun σ H Q => ta σ H fun x H0 => ∃ f, x = .ref f ∧ (∃ fd, H0 f = some (FnO f fd)) ∧ t σ H0 fun vs H1 => (∃ fd, H1 f = some (FnO f fd)) ∧
  ∀ (A : Around) (outer : List Env) (s : Shared) (us : List Value), Room k A → Env0 P w K mg base A outer s H1 → Vals vs us → codeAny (model P w) A (.call (.ref f) ⟨us, []⟩) (CR CX0 outer P w H1 s Q E0) s
theorem pe_callV {X : Cx} {x : Str} {p pos : Pos} {e : Expr} {es : List Expr} {ta : TE} {t : TA} {k : Nat} (hr : Room k X.A) (ht : PE X (.Name x p) ta) (ha : PA X (e :: es) t)
    (he : starEach (e :: es) X.env = (false, eval e X.env) :: starEach es X.env := by rfl) (hpl : (backTo pos (starEach es X.env)).any (·.1) = false := by rfl) :
    PE X (.Call (.Name x p) (e :: es) [] pos) (tCallV X.prog X.w X.K X.mg X.base k ta t) := by
  intro pins s σ H Q I h
  refine wpAny_Call_Name_kw (thn (ht pins s σ H _ I h) fun v s1 hq9 => ?_)
  obtain ⟨x, H0, I0, rx, f, ex, ⟨fd, hf⟩, q⟩ := hq9
  subst ex
  cases rx
  refine callWith_F ⟨_, _, _, _, FnO.get I0.hok hf⟩ (thn (ha pos pins s1 σ H0 _ I0 q) fun us s2 hq9 => ?_) he hpl
  obtain ⟨vs, H1, I1, r, ⟨fd1, hf1⟩, q1⟩ := hq9
  refine ⟨⟨_, _, _, _, FnO.get I1.hok hf1⟩, ?_⟩
  refine wpAny_call (codeAny_mono (q1 X.A X.stack s2 us hr I1.env0 r) fun r s' hq => ?_)
  cases r with
  | error e => exact hq.elim
  | ok fl =>
    cases fl with
    | ret u => exact I1.after hq
    | next => exact False.elim hq
    | brk => exact False.elim hq
    | cont => exact False.elim hq
end L2
set_option maxRecDepth 100000
set_option maxHeartbeats 4000000
set_option linter.all false
namespace L2
open PySem PySem.Spec PyProof.Rows PySem.W
/-! ### sorted(pairs, key=lambda c: c[1]) -/
/-- the key's call: the second of a pair, all else as it was -/
theorem key_run {P : Program} {w : World} {A : Around} {s : Shared} {f c' t : Addr} {x qual : Str} {params : Arguments} {scope : Scope} {pm ctv : Value} {p1 p2 p3 : Pos} {jj : Nat} {i k : Int} {t1 tk : Tok} {Q : Value → Shared → Prop}
    (hd : A.depth < recursionLimit) (lim : s.heap.NoLimit) (hkd : scope.kind = .function) (hco : scope.isCoroutine = false) (hgen : scope.isGenerator = false) (hcell : ∀ z ∈ scope.names, z.2 ≠ .cell) (hx : scope.names.lookup x = some .local) (hdb : (x == ("__debug__" : Str)) = false)
    (hF : s.heap.get? f = some { cls := .type "function", data := .func (kla_fn "<lambda>" qual params (.Subscript (.Name x p1) (.Constant (.int 1) jj p2) p3) scope [] pm (.ref c') ctv) }) (hC : s.heap.CodeRec (.ref c') qual)
    (hb : ∀ u : Value, bindArgs (kla_fn "<lambda>" qual params (.Subscript (.Name x p1) (.Constant (.int 1) jj p2) p3) scope [] pm (.ref c') ctv) ⟨[u], []⟩ = pure [(x, u)]) (hT : IsTup s.heap t #[.int i t1, .int k tk])
    (h : ∀ (h' : Heap) (n : Nat), (∀ b o, s.heap.get? b = some o → h'.get? b = some o) → Q (.int k tk) { s with heap := h', toks := n }) : wpAny (model P w) A (call (.ref f) [.ref t]) Q (fun _ _ => False) s := by
  refine wpAny_call (kla_callFunE hd hF rfl hco hgen rfl hC ?_)
  rw [hb]
  refine wpAny_pure (wpAny_newFunctionEnv hcell (fun z hz => by rw [List.mem_singleton.mp hz]; exact hx) (fun h₁ hns hsb => ⟨lim.fresh _ hsb, kla_codeExpr ?_⟩) hkd)
  have hk₁ : ∀ b o, s.heap.get? b = some o → h₁.get? b = some o := fun b o e => hsb.extBut b o (Nat.ne_of_lt (Heap.lt_size e)) (Heap.get?_push_of_some _ e)
  refine Subscript_ (wpAny_Name (wpAny_loadName_local (v := .ref t) hkd hx hns (by simp) ?_) hdb)
  refine wpAny_Constant_int ?_
  refine subscriptTail_builtinR (x := .int k tk) (IsTup.typeIs (hT.keeps hk₁)) slot_tuple_getitem.lookup (getItem_tuple (j := 1) (hT.keeps hk₁) (by decide) (by decide) rfl rfl ⟨rfl, ?_⟩) rfl
  exact h h₁ _ hk₁
theorem perm_map_inv {α β : Type} {g : α → β} {l l' : List β} (h : l.Perm l') : ∀ {m : List α}, l' = m.map g → ∃ z : List α, z.Perm m ∧ l = z.map g := by
  induction h with
  | nil => intro m e; exact ⟨m, .refl _, e⟩
  | cons x h ih =>
    intro m e
    cases m with
    | nil => cases e
    | cons a m =>
      rw [List.map_cons] at e
      injection e with e1 e2
      obtain ⟨z, p, e3⟩ := ih e2
      exact ⟨a :: z, p.cons a, by rw [List.map_cons, e1, e3]⟩
  | swap x y l =>
    intro m e
    match m, e with
    | a :: b :: m, e =>
      simp only [List.map_cons, List.cons.injEq] at e
      exact ⟨b :: a :: m, .swap _ _ _, by simp only [List.map_cons, e.1, e.2.1, e.2.2]⟩
  | trans h1 h2 ih1 ih2 =>
    intro m e
    obtain ⟨z, p, e3⟩ := ih2 e
    obtain ⟨z', p', e4⟩ := ih1 e3
    exact ⟨z', p'.trans p, e4⟩
theorem vals_refs : ∀ {ts : List Addr} {us : List Value}, Vals (ts.map V.ref) us → us = ts.map Value.ref
  | [], us, r => by cases r; rfl
  | t :: ts, us, r => by
    cases r with
    | cons r1 r2 =>
      cases r1
      rw [vals_refs r2]; rfl
theorem refs_vals : ∀ (ts : List Addr), Vals (ts.map V.ref) (ts.map Value.ref)
  | [] => .nil
  | t :: ts => .cons rfl (refs_vals ts)
theorem zip_two : ∀ (ts : List Addr) (cs : List (Int × Int)), (cs.map (·.2)).zip (ts.map Value.ref) = (ts.zip cs).map fun p => (p.2.2, Value.ref p.1)
  | [], cs => by cases cs <;> rfl
  | _ :: _, [] => rfl
  | t :: ts, c :: cs => by
    rw [List.map_cons, List.map_cons, List.zip_cons_cons, List.zip_cons_cons, List.map_cons, zip_two ts cs]
theorem obj_get {P : Program} {w : World} {H : Hp} {h : Heap} {a : Addr} {o : HO} (x : ObjOk P w H h a o) : ∃ ob, h.get? a = some ob := by
  cases o with
  | lst xs => obtain ⟨_, _, _, _, e⟩ := x; exact ⟨_, e⟩
  | tup xs => obtain ⟨_, _, _, _, e, _⟩ := x; exact ⟨_, e⟩
  | dK kvs => obtain ⟨_, _, _, _, o, _, _, e, _⟩ := x; exact ⟨_, e⟩
  | dT kvs => obtain ⟨_, _, _, _, o, _, _, e, _⟩ := x; exact ⟨_, e⟩
  | set S n => obtain ⟨o, _, _, _, e, _⟩ := x; exact ⟨_, e⟩
  | ins C dx fs => obtain ⟨_, _, _, e, _⟩ := x; exact ⟨_, e⟩
  | own y => exact x
  | xd fs => obtain ⟨_, ⟨_, _, _, e, _⟩, _⟩ := x; exact ⟨_, e⟩
  | rng lo hi => obtain ⟨_, _, _, e⟩ := x; exact ⟨_, e⟩
  | frz ob u => exact ⟨_, x.1⟩
  | tbl ps => exact ⟨_, (show h.get? a = some _ from x)⟩
  | met f y => exact ⟨_, (show h.get? a = some _ from x)⟩
  | ext φ => exact x.2.1
/-- all objects but one -/
def allBut (h : Heap) (L : Addr) : List (Addr × Obj) := (List.range h.objs.size).filterMap fun b => if b = L then none else (h.get? b).map fun o => (b, o)
theorem mem_allBut {h : Heap} {L b : Addr} {o : Obj} (n : b ≠ L) (e : h.get? b = some o) : (b, o) ∈ allBut h L := by
  unfold allBut
  refine List.mem_filterMap.mpr ⟨b, List.mem_range.mpr (Heap.lt_size e), ?_⟩
  rw [if_neg n, e]; rfl
theorem of_allBut {h : Heap} {L : Addr} {p : Addr × Obj} (hp : p ∈ allBut h L) : p.1 ≠ L ∧ h.get? p.1 = some p.2 := by
  unfold allBut at hp
  obtain ⟨b, _, e⟩ := List.mem_filterMap.mp hp
  split at e
  · cases e
  · rename_i n
    obtain ⟨o, e2, e3⟩ := Option.map_eq_some_iff.mp e
    subst e3
    exact ⟨n, e2⟩
theorem sorted_snd {X : Cx} {pins : List (Addr × Obj)} {σ : St} {H : Hp} {s : Shared} {k : Nat} {l f c' : Addr} {ts : List Addr} {cs : List (Int × Int)} {x qual : Str} {params : Arguments} {scope : Scope} {pm ctv : Value} {p1 p2 p3 : Pos} {jj : Nat} {Q : VK}
    (I : Inv X pins σ H s) (hr : Room (k + 2) X.A) (hkd : scope.kind = .function) (hco : scope.isCoroutine = false) (hgen : scope.isGenerator = false) (hcell : ∀ z ∈ scope.names, z.2 ≠ .cell) (hx : scope.names.lookup x = some .local) (hdb : (x == ("__debug__" : Str)) = false)
    (hF : H f = some (FnO f (kla_fn "<lambda>" qual params (.Subscript (.Name x p1) (.Constant (.int 1) jj p2) p3) scope [] pm (.ref c') ctv))) (hC : H c' = some (CdO c' qual))
    (hb : ∀ u : Value, bindArgs (kla_fn "<lambda>" qual params (.Subscript (.Name x p1) (.Constant (.int 1) jj p2) p3) scope [] pm (.ref c') ctv) ⟨[u], []⟩ = pure [(x, u)])
    (hq : SqL X.K H l (ts.map V.ref)) (hlen : ts.length = cs.length) (hts : ∀ (i : Nat) t c, ts[i]? = some t → cs[i]? = some c → H t = some (.tup [.int c.1, .int c.2]))
    (h : ∀ (D : Addr) (zs : List (Addr × (Int × Int))), H D = none → zs.Perm (ts.zip cs) → zs.Pairwise (fun p q => p.2.2 ≤ q.2.2) → Q (.ref D) (upd H D (.lst (zs.map fun p => V.ref p.1)))) :
    wpAny (model X.prog X.w) X.A (call (.builtin "sorted") [.ref l] [("key", .ref f)]) (EP X pins σ Q) X.xe s := by
  obtain ⟨its, rv, pl, hz⟩ := I.list hq
  obtain rfl := vals_refs rv
  obtain ⟨m, hn, hloc⟩ := id I.loc
  have sz0 : ts.length ≤ sizeLine := by rw [List.length_map] at hz; exact hz
  have F : Fr (⟨#[], s.heap.life⟩ : Heap) X.env.locals s.heap m := ⟨hn, fun b o e => (by simp [Heap.get?] at e), Nat.zero_le _⟩
  have N : News (⟨#[], s.heap.life⟩ : Heap) X.env.locals s.heap (allBut s.heap X.env.locals) := fun p hp => ⟨(of_allBut hp).2, (of_allBut hp).1, by simp [Heap.get?]⟩
  have lim : s.heap.NoLimit := I.nolimit
  refine ksk_sortedAny (f := .ref f) (kz := cs.map (·.2)) (b := false) F N pl.isList ?len ?sz ?a1 ?a2 ?a3 ?turn ?fin
  case len => rw [List.length_map, List.length_map, hlen]
  case sz => rw [List.length_map]; exact sz0
  case a1 => ksk_a1
  case a2 => intro x'; ksk_a2
  case a3 => exact fun x' => ksk_t1 f x'
  case turn =>
    intro i v k' hv hk g tk own F' N'
    rw [List.getElem?_map] at hv hk
    obtain ⟨t, ht, rfl⟩ := Option.map_eq_some_iff.mp hv
    obtain ⟨c, hc, rfl⟩ := Option.map_eq_some_iff.mp hk
    have back : ∀ b o, b ≠ X.env.locals → s.heap.get? b = some o → g.get? b = some o := fun b o n e => (N' _ (List.mem_append_left _ (mem_allBut n e))).1
    have nL : ∀ b u, H b = some u → b ≠ X.env.locals := fun b u e z => by rw [z, I.free] at e; cases e
    obtain ⟨zt, us, ru, hT⟩ := I.hok t _ (hts i t c ht hc)
    obtain ⟨t1, t2, rfl⟩ : ∃ t1 t2, us = [.int c.1 t1, .int c.2 t2] := by
      cases ru with
      | cons r1 r2 =>
        cases r2 with
        | cons r2 r3 =>
          cases r3
          obtain ⟨t1, rfl⟩ := r1
          obtain ⟨t2, rfl⟩ := r2
          exact ⟨t1, t2, rfl⟩
    have hT' : IsTup g t #[.int c.1 t1, .int c.2 t2] := let ⟨o, ho, r⟩ := hT; ⟨o, back t o (nL _ _ (hts i t c ht hc)) ho, r⟩
    obtain ⟨oc, vc, tc, hc1, hc2, hc3⟩ := (I.hok c' _ hC).1
    have lim' : g.NoLimit := I.ok.mod.nolimit.keeps fun b o e => back b o (fun z => by
      have := Heap.lt_size e
      rw [z] at this
      exact absurd (Nat.lt_of_lt_of_le this (Nat.le_trans I.ok.bsz I.ok.above)) (Nat.lt_irrefl _)) (I.bk b o e)
    refine key_run (s := { s with heap := g, toks := tk }) (hr.in1.in1).depth lim' hkd hco hgen hcell hx hdb (back f _ (nL _ _ hF) (FnO.get I.hok hF)) ⟨c', oc, vc, tc, rfl, back c' oc (nL _ _ hC) hc1, hc2, hc3⟩ hb hT' fun h' n hk' => ?_
    exact ⟨h', n, t2, rfl, rfl, F'.kept hk', N'.grown hk'⟩
  case fin =>
    intro D h' tk out c9 F' N' lt ko
    obtain ⟨ps, hp, ho, hs⟩ := ko
    have back : ∀ b o, b ≠ X.env.locals → s.heap.get? b = some o → h'.get? b = some o := fun b o n e => (N' _ (.tail _ (mem_allBut n e))).1
    have nL : ∀ b u, H b = some u → b ≠ X.env.locals := fun b u e z => by rw [z, I.free] at e; cases e
    obtain ⟨hD, hDL, _⟩ := N' _ (.head _)
    have nD : ∀ b o, s.heap.get? b = some o → b ≠ D := fun b o e z => by
      subst z
      exact absurd (lt _ (mem_allBut hDL e)) (Nat.lt_irrefl _)
    have hDn : H D = none := by
      cases q : H D with
      | none => rfl
      | some u =>
        obtain ⟨o, e⟩ := obj_get (I.hok D u q)
        exact absurd rfl (nD D o e)
    have ez : (cs.map (·.2)).zip (ts.map Value.ref) = (ts.zip cs).map fun p => (p.2.2, Value.ref p.1) := by
      exact zip_two ts cs
    obtain ⟨zs, hzs, rfl⟩ := perm_map_inv hp ez
    have eo : out.toList = (zs.map (·.1)).map Value.ref := by
      rw [ho, List.map_map, List.map_map]; rfl
    have hzl : zs.length = ts.length := by rw [hzs.length_eq, List.length_zip, hlen, Nat.min_self]
    have hpw : zs.Pairwise (fun p q => p.2.2 ≤ q.2.2) := by
      rw [List.pairwise_map] at hs
      exact hs.imp fun h => h
    refine ⟨.ref D, upd H D (.lst (zs.map fun p => V.ref p.1)), ?_, rfl, h D zs hDn hzs hpw⟩
    refine I.step (g' := s.gens) (d' := s.drawn) (ch := []) (fun b z => absurd z (by simp)) (fun b o n _ _ e _ => back b o n e) (fun b o n _ _ e _ => ⟨o.slots, back b o n e⟩) (fun b o _ e n => ?_) (fun b o _ e => ?_) (fun b xs e => ?_) (fun b o u e => ?_) (fun b ps' e => ⟨#[], ?_⟩) (fun m' hm' => ?_) (fun b u e => ?_) I.bare
    · rw [upd_ne (nD b o e)]; exact n
    · by_cases z : b = X.env.locals
      · obtain ⟨o', _, _, e', _⟩ := F'.ns
        exact ⟨o', by rw [z]; exact e'⟩
      · exact ⟨o, back b o z e⟩
    · rw [upd_ne (ne_of_none e hDn)]; exact e
    · rw [upd_ne (ne_of_none e hDn)]; exact e
    · rw [upd_ne (ne_of_none e hDn)]; simpa using e
    · have em : m' = m := by
        obtain ⟨o1, es1, ep1, a1, b1, _, d1⟩ := hm'
        obtain ⟨o2, es2, ep2, a2, b2, _, d2⟩ := hn
        rw [a1] at a2; cases a2
        rw [b1] at b2; cases b2
        funext y
        rw [← d1, ← d2]
      rw [em]; exact F'.ns
    · by_cases z : b = D
      · subst z
        rw [upd_same] at e; cases e
        refine ⟨by rw [List.length_map, hzl]; exact sz0, out.toList, c9, ?_, by simpa using hD⟩
        rw [eo, show (zs.map fun p => V.ref p.1) = (zs.map (·.1)).map V.ref by rw [List.map_map]; rfl]
        exact refs_vals _
      · rw [upd_ne z] at e
        refine (I.hok b u e).stay (fun c v hc r => back c v ?_ r) (fun d r => by rw [upd_ne (ne_of_none r hDn)]; exact r) fun d xs r => by rw [upd_ne (ne_of_none r hDn)]; exact r
        rcases hc with rfl | hc
        · exact nL _ _ e
        · exact nL _ _ hc
/-! ### a lambda that is met again -/
def tLam2 (mg : Str → Option Value) (P : Addr) (qual : Str) (params : Arguments) (body : Expr) (scope : Scope) (pos : Pos) : TE := fun σ H Q => ∃ ps, H P = some (.tbl ps) ∧ TriplesOk ps.toList ∧
  ((codeAmong pos ps.toList = none ∧ ∀ (f c' : Addr) (ctv : Value), H f = none → H c' = none → f ≠ c' → Q (.ref f) (upd (upd (upd H P (.tbl (ps ++ #[rawInt pos.line, rawInt pos.col, .ref c']))) c' (CdO c' qual)) f (FnO f (kla_fn "<lambda>" qual params body scope [] ((mg "__name__").getD .none) (.ref c') ctv)))) ∨
   ∃ c', codeAmong pos ps.toList = some (.ref c') ∧ ∀ (f : Addr) (ctv : Value), H f = none → Q (.ref f) (upd H f (FnO f (kla_fn "<lambda>" qual params body scope [] ((mg "__name__").getD .none) (.ref c') ctv))))
theorem pe_lam2 {X : Cx} {c P : Addr} {params : Arguments} {body : Expr} {scope : Scope} {pos : Pos} (hcode : X.env.code = .ref c) (C : CodeHd X.base c P) (hB : X.base.BuiltinsAt X.mg P) (hdef : defaultsOf params X.env = ([], [])) (hcl : closureFor scope X.env = pure []) : PE X (.Lambda params body scope pos) (tLam2 X.mg P (X.env.qual ++ "<lambda>") params body scope pos) := by
  intro pins s σ H Q I h
  obtain ⟨ps, hP, ht, ⟨hn, q⟩ | ⟨c', hn, q⟩⟩ := h
  · exact pe_lam (clos := []) hcode C hB hdef hcl pins s σ H Q I ⟨ps, hP, ht, hn, q⟩
  · have hPh : s.heap.get? P = some (tabObj ps) := I.hok P _ hP
    obtain ⟨bm, ob, b1, b2, b3, b4, b5, b6⟩ := hB
    refine kla_eval hdef (kla_makeFunctionHit (mg := X.mg) hcl I.ok.glob (I.mod.glob.keeps I.bk) hcode (C.keeps I.bk) hPh ht hn ⟨bm, ob, b1, b2, b3, b4, I.bk _ _ b5, b6⟩ fun ctv h' tk hk hsz => ?_)
    have hf0 : H h'.objs.size = none := I.hok.fresh hsz
    exact ⟨.ref h'.objs.size, _, I.laid (t' := tk) (fun b u e => Heap.get?_push_of_some _ (hk b u e)) hsz (FnO.ok (Heap.get?_push_size _ rfl)), rfl, q _ ctv hf0⟩
/-- sorted(e, key=lambda x: x[1]) -/
def tSrt (K : PySem.W.Frag) (x qual : Str) (params : Arguments) (scope : Scope) (p1 p2 p3 : Pos) (jj : Nat) (ta : TA) (tl : TE) : TE := fun σ H Q => ta σ H fun vs H1 => tl σ H1 fun fv H2 => ∃ (l f c' : Addr) (ts : List Addr) (cs : List (Int × Int)) (pm ctv : Value), vs = [.ref l] ∧ fv = .ref f ∧
  H2 f = some (FnO f (kla_fn "<lambda>" qual params (.Subscript (.Name x p1) (.Constant (.int 1) jj p2) p3) scope [] pm (.ref c') ctv)) ∧ H2 c' = some (CdO c' qual) ∧ SqL K H2 l (ts.map V.ref) ∧ ts.length = cs.length ∧ (∀ (i : Nat) t c, ts[i]? = some t → cs[i]? = some c → H2 t = some (.tup [.int c.1, .int c.2])) ∧
  ∀ (D : Addr) (zs : List (Addr × (Int × Int))), H2 D = none → zs.Perm (ts.zip cs) → zs.Pairwise (fun p q => p.2.2 ≤ q.2.2) → Q (.ref D) (upd H2 D (.lst (zs.map fun p => V.ref p.1)))
theorem pe_sortedK {X : Cx} {k : Nat} {x qual : Str} {params : Arguments} {scope : Scope} {e : Expr} {p pos kp lp p1 p2 p3 : Pos} {jj : Nat} {ta : TA} {tl : TE} (hr : Room (k + 2) X.A) (hg : Gl X "sorted") (hm : X.mg "sorted" = none) (ha : PA X [e] ta)
    (hl : PE X (.Lambda params (.Subscript (.Name x p1) (.Constant (.int 1) jj p2) p3) scope lp) tl) (hkd : scope.kind = .function) (hco : scope.isCoroutine = false) (hgen : scope.isGenerator = false) (hcell : ∀ z ∈ scope.names, z.2 ≠ .cell) (hx : scope.names.lookup x = some .local) (hdb : (x == ("__debug__" : Str)) = false)
    (hb : ∀ (c' : Addr) (pm ctv u : Value), bindArgs (kla_fn "<lambda>" qual params (.Subscript (.Name x p1) (.Constant (.int 1) jj p2) p3) scope [] pm (.ref c') ctv) ⟨[u], []⟩ = pure [(x, u)])
    (he : backTo pos (starEach [e] X.env) = (false, eval e X.env) :: backTo pos (starEach [] X.env) := by rfl) (hpl : (backTo pos (starEach [e] X.env)).any (·.1) = false := by rfl) :
    PE X (.Call (.Name "sorted" p) [e] [⟨some "key", .Lambda params (.Subscript (.Name x p1) (.Constant (.int 1) jj p2) p3) scope lp, kp⟩] pos) (tSrt X.K x qual params scope p1 p2 p3 jj ta tl) := by
  intro pins s σ H Q I h
  refine wpAny_Call_Name_kw (ld_blt I hg hm PyProof.Rows.boot_sorted ?_ (by decide) (by decide))
  refine PyProof.Rows.callWith_kw (thn (ha pos pins s σ H _ I h) fun us s1 hq9 => ?_) he hpl rfl rfl
  obtain ⟨vs, H1, I1, r1, q1⟩ := hq9
  refine PyProof.Rows.kws_cons (thn (hl pins s1 σ H1 _ I1 q1) fun fu s2 ⟨fv, H2, I2, r2, q2⟩ => PyProof.Rows.kws_nil ?_)
  obtain ⟨l, f, c', ts, cs, pm, ctv, rfl, rfl, hF, hC, hq, hlen, hts, q⟩ := q2
  cases r2
  obtain ⟨u, rfl, ru⟩ := r1.one
  cases ru
  exact sorted_snd I2 hr hkd hco hgen hcell hx hdb hF hC (hb c' pm ctv) hq hlen hts q
/-! ### list.extend(tuple) -/
end L2
set_option maxRecDepth 100000
set_option maxHeartbeats 4000000
set_option linter.all false
namespace L2
open PySem PySem.Spec PyProof.Rows PySem.W
/-! ### the head, with the tables of the codes that make functions -/
def trackT (K : PySem.W.Frag) (ls : List LArg) (tabs : List (Addr × Addr)) : Hp := fun b => if b ∈ tabs.map (·.2) then some (.tbl #[]) else trackL K ls b
theorem spec_callT {P : Program} {w : World} {K : PySem.W.Frag} {mg mb : Str → Option Value} {CX : CXT} {k : Nat} {fa : Addr} {fd : FuncData} {ps : List Str} {sp : Sp} {s₁ : Shared} {us : List Value} {vs : List V} {ls : List LArg} {tabs : List (Addr × Addr)} {ans : List Int} {R : PySem.W.WRecords} {cl : Str → Option Addr}
    (KX : K.In s₁.heap) (hns : s₁.heap.Ns mainGlobals mg) (hb : s₁.heap.Ns builtinsNs mb) (hbb : ∀ x : Str, x ≠ "__name__" → mb x = bootBuiltins x) (hlim : s₁.heap.NoLimit) (hg : s₁.gens = #[])
    (hls : ∀ l ∈ ls, s₁.heap.get? l.1 = some { cls := .type "list", data := .seq l.2.1.toArray } ∧ IntsAre l.2.1 l.2.2 ∧ l.2.2.length ≤ sizeLine) (hT : TabsAt tabs s₁.heap) (hKT : ∀ q ∈ tabs, K.lookup q.2 = none)
    (hBm : ∃ bm ob, mg "__builtins__" = some (.ref bm) ∧ bm ≠ builtinsNs ∧ s₁.heap.get? bm = some ob ∧ ob.cls = .type "module" ∧ ob.dict = some builtinsNs ∧ ob.data = .plain) (hr : Room k callerA) (rv : Vals vs us)
    (F : ∀ base : Heap, K.In base → base.Ns mainGlobals mg → (∀ q ∈ tabs, CodeHd base q.1 q.2 ∧ base.BuiltinsAt mg q.2) → FnOk P w K mg base CX k fa fd ps sp) (hbind : BindsTo s₁ fd ⟨us, []⟩ (ps.zip us))
    (hsp : ∀ H : Hp, (∀ l ∈ ls, SqL K H l.1 (l.2.2.map V.int)) → (∀ q ∈ tabs, H q.2 = some (.tbl #[])) → sp vs H (Ans ans) fun _ _ _ => False) (hCX : ∀ H e s', CX [] H s₁ (fun _ _ _ => False) e s' → False) :
    codeAny (model P w) callerA (.call (.ref fa) ⟨us, []⟩) (fun r s' => ∃ p as, r = .ok (.ret (.ref p)) ∧ PySem.W.ReadsW R cl s'.heap (.ref p) (.list (ans.map PySem.W.WData.int)) as ∧ OldK s₁.heap s'.heap ∧ s'.os = s₁.os ∧ AllBare s'.gens) s₁ := by
  have tab : ∀ b, b ∈ tabs.map (·.2) → trackT K ls tabs b = some (.tbl #[]) := fun b z => if_pos z
  have nta : ∀ b, b ∉ tabs.map (·.2) → trackT K ls tabs b = trackL K ls b := fun b z => if_neg z
  have heapT : ∀ b, b ∈ tabs.map (·.2) → s₁.heap.get? b = some (tabObj #[]) ∧ K.lookup b = none := fun b z => by
    obtain ⟨q, hq, rfl⟩ := List.mem_map.mp z
    exact ⟨(hT q hq).2, hKT q hq⟩
  have at_ : ∀ b u, trackT K ls tabs b = some u → K.lookup b = none ∧ ((b ∈ tabs.map (·.2) ∧ u = .tbl #[]) ∨ ∃ l ∈ ls, l.1 = b ∧ u = .frz { cls := .type "list", data := .seq l.2.1.toArray } (.lst (l.2.2.map V.int))) := fun b u e => by
    by_cases z : b ∈ tabs.map (·.2)
    · rw [tab b z] at e; cases e
      exact ⟨(heapT b z).2, .inl ⟨z, rfl⟩⟩
    · rw [nta b z] at e
      unfold trackL at e
      split at e
      · cases e
      · rename_i hk
        obtain ⟨l, hl, rfl⟩ := Option.map_eq_some_iff.mp e
        exact ⟨hk, .inr ⟨l, List.mem_of_find?_eq_some hl, by simpa using List.find?_some hl, rfl⟩⟩
  have hok : HOk P w (trackT K ls tabs) s₁.heap := fun b u e => by
    obtain ⟨_, ⟨z, rfl⟩ | ⟨l, hl, rfl, rfl⟩⟩ := at_ b u e
    · exact (heapT b z).1
    · obtain ⟨h1, h2, h3⟩ := hls l hl
      exact ⟨h1, by rw [List.length_map]; exact h3, l.2.1, _, vals_ints h2, h1⟩
  have sq : ∀ l ∈ ls, SqL K (trackT K ls tabs) l.1 (l.2.2.map V.int) := fun l hl => by
    obtain ⟨h1, h2, h3⟩ := hls l hl
    cases hk : K.lookup l.1 with
    | some o =>
      have e := KX _ _ hk
      rw [h1] at e; cases e
      exact .inr ⟨_, l.2.1.toArray, _, hk, rfl, rfl, rfl, by rw [List.size_toArray, h2.length]; exact h3, by simpa using vals_ints h2⟩
    | none =>
      have nt : l.1 ∉ tabs.map (·.2) := fun z => by
        have e := (heapT _ z).1
        rw [h1] at e; cases e
      cases hf : ls.find? fun x => x.1 == l.1 with
      | none => exact absurd (List.find?_eq_none.mp hf l hl) (by simp)
      | some l' =>
        have e' : l'.1 = l.1 := by simpa using List.find?_some hf
        obtain ⟨g1, g2, g3⟩ := hls l' (List.mem_of_find?_eq_some hf)
        rw [e', h1] at g1
        have g1' : l.2.1.toArray = l'.2.1.toArray := by
          injection g1 with g1; injection g1 with _ _ g1 _; injection g1
        have g4 : l.2.1 = l'.2.1 := by simpa using g1'
        have g5 : l.2.2.map V.int = l'.2.2.map V.int := (vals_ints h2).inj (by rw [g4]; exact vals_ints g2)
        refine .inl (.inr ⟨{ cls := .type "list", data := .seq l'.2.1.toArray }, ?_⟩)
        rw [nta _ nt]
        unfold trackL
        rw [hk]
        show (ls.find? fun x => x.1 == l.1).map _ = _
        rw [hf, g5]
        rfl
  -- what is neither a list nor a table is not tracked
  have noT : ∀ {b : Addr} {o : Obj}, s₁.heap.get? b = some o → (∀ vs n, o.data ≠ .seq vs n) → o ≠ tabObj #[] → trackT K ls tabs b = none := fun {b o} e d d2 => by
    cases q : trackT K ls tabs b with
    | none => rfl
    | some u =>
      obtain ⟨_, ⟨z, rfl⟩ | ⟨l, hl, rfl, _⟩⟩ := at_ b u q
      · rw [(heapT b z).1] at e; cases e
        exact absurd rfl d2
      · rw [(hls l hl).1] at e; cases e
        exact absurd rfl (d _ _)
  have nsK : ∀ {b : Addr} {m : Str → Option Value}, s₁.heap.Ns b m → (hidT s₁.heap (trackT K ls tabs)).Ns b m := fun {b m} ⟨o, es, ep, e, d, r⟩ => ⟨o, es, ep, hidT_get e (noT e (fun vs n z => by rw [d] at z; cases z) (fun z => by rw [z] at d; cases d)), d, r⟩
  have hKb : K.In (hidT s₁.heap (trackT K ls tabs)) := fun b o e => hidT_get (KX b o e) (by
    cases q : trackT K ls tabs b with
    | none => rfl
    | some u =>
      have := (at_ b u q).1
      rw [e] at this; cases this)
  have hM : Mod K mg (hidT s₁.heap (trackT K ls tabs)) := ⟨hKb, nsK hns, ⟨mb, nsK hb, hbb⟩, let ⟨mc, h1, h2⟩ := hlim; ⟨mc, nsK h1, h2⟩⟩
  have e0 : Env0 P w K mg (hidT s₁.heap (trackT K ls tabs)) callerA [] s₁ (trackT K ls tabs) := ⟨rfl, hM, fun b o e => of_hidT e, Nat.le_of_eq (hidT_size _ _), trivial, fun b hb => absurd (show b ∈ ([] : List Addr) from hb) (by simp), hok, .of_eq hg⟩
  have hcd : ∀ q ∈ tabs, CodeHd (hidT s₁.heap (trackT K ls tabs)) q.1 q.2 ∧ (hidT s₁.heap (trackT K ls tabs)).BuiltinsAt mg q.2 := fun q hq => by
    obtain ⟨o, vs, file, tf, flags, tg, inF, text, tt, e1, r1, r2, r3, r4, r5, r6, r7, r8, hne⟩ := (hT q hq).1
    refine ⟨⟨o, vs, file, tf, flags, tg, inF, text, tt, hidT_get e1 (noT e1 (fun vs n z => by rw [r2] at z; cases z) (fun z => by rw [z] at r1; cases r1)), r1, r2, r3, r4, r5, r6, r7, r8, hne⟩, ?_⟩
    obtain ⟨bm, ob, b1, b2, b3, b4, b5, b6⟩ := hBm
    refine ⟨bm, ob, b1, b2, fun z => ?_, fun z => ?_, hidT_get b3 (noT b3 (fun vs n z => by rw [b6] at z; cases z) (fun z => by rw [z] at b4; cases b4)), b4, b5, b6⟩
    · obtain ⟨o', es, ep, e, hd, _⟩ := hns
      rw [z, e] at b3; cases b3; rw [hd] at b6; cases b6
    · rw [z, (hT q hq).2] at b3; cases b3; cases b4
  refine codeAny_mono ((F _ hKb (nsK hns) hcd).run callerA [] s₁ (trackT K ls tabs) ⟨us, []⟩ us vs _ _ hr e0 hbind rv (hsp _ sq fun q hq => tab _ (List.mem_map_of_mem hq))) fun r s' h => ?_
  cases r with
  | error e => exact (hCX _ e s' h).elim
  | ok fl =>
    cases fl with
    | next => exact False.elim h
    | brk => exact False.elim h
    | cont => exact False.elim h
    | ret u =>
      obtain ⟨v, H', os, bare, un, hok', r', p, rfl, hp⟩ := h
      obtain rfl : u = Value.ref p := r'
      have rd : ∃ as, PySem.W.ReadsW R cl s'.heap (.ref p) (.list (ans.map PySem.W.WData.int)) as := by
        rcases hp with hp | ⟨o, its, n, hk, _⟩
        · obtain ⟨_, its, n, rr, e⟩ := hp.ok hok'
          exact ⟨[p], .list e rfl rfl (by simpa using reads_ints rr)⟩
        · cases hk
      obtain ⟨as, rd⟩ := rd
      have each : ∀ b o, s₁.heap.get? b = some o → asItWas s₁.heap s'.heap b o ∧ ∃ o', s'.heap.get? b = some o' := fun b o e => by
        cases q : trackT K ls tabs b with
        | none =>
          have z := un.keep b o e q (by intro z; exact absurd (show b ∈ ([] : List Addr) from z) (by simp)) (by simp)
          exact ⟨.inl z, o, z⟩
        | some u =>
          obtain ⟨_, ⟨z, rfl⟩ | ⟨l, hl, rfl, rfl⟩⟩ := at_ b u q
          · obtain ⟨more, hm⟩ := un.tbls _ _ q
            have hm' : s'.heap.get? b = some { cls := .none, data := .fields (#[] ++ more) } := hok' _ _ hm
            obtain ⟨t, ht, rfl⟩ := List.mem_map.mp z
            rw [(hT t ht).2] at e; cases e
            exact ⟨.inr (.inl ⟨((hT t ht).1.tab (hT t ht).2).isCodeTable, rfl, #[], more, rfl, hm'⟩), _, hm'⟩
          · obtain ⟨e1, _⟩ := hok' _ _ (un.frzs _ _ _ q)
            rw [(hls l hl).1] at e; cases e
            exact ⟨.inl e1, _, e1⟩
      exact ⟨p, as, rfl, rd, ⟨fun b o e => (each b o e).1, fun b o e => (each b o e).2⟩, os, bare⟩
end L2
set_option linter.all false
namespace CM
open Tote

/-! ### lines: where one ends -/
theorem upTo_none : ∀ {b : Bytes}, (∀ c ∈ b, c ≠ 10) → upTo b = none
  | [], _ => rfl
  | c :: r, h => by
    have hc : c ≠ 10 := h c (by simp)
    have hr := upTo_none (b := r) (fun x hx => h x (by simp [hx]))
    simp [upTo, hc, hr]
theorem upTo_some : ∀ {l r : Bytes}, (∀ c ∈ l, c ≠ 10) → upTo (l ++ 10 :: r) = some (l, r)
  | [], r, _ => by simp [upTo]
  | c :: l, r, h => by
    have hc : c ≠ 10 := h c (by simp)
    have hr := upTo_some (l := l) (r := r) (fun x hx => h x (by simp [hx]))
    simp [upTo, hc, hr]
theorem upTo_is : ∀ {b l r : Bytes}, upTo b = some (l, r) → b = l ++ 10 :: r
  | [], l, r, h => by simp [upTo] at h
  | c :: b, l, r, h => by
    unfold upTo at h
    by_cases hc : c = 10
    · simp [hc] at h
      obtain ⟨rfl, rfl⟩ := h
      simp [hc]
    · simp [hc] at h
      obtain ⟨l', e, rfl⟩ := h
      simp [upTo_is e]

/-! ### bytes that can't stand in a line -/
def isBad (l : Bytes) (i : Nat) : Bool := if l.getD i 0 = 32 then i == 0 || i + 1 == l.length || l.getD (i - 1) 0 == 32 else decide (l.getD i 0 < 32) || decide (126 < l.getD i 0)
def gapAt (l : Bytes) (i : Nat) : Bool := i == 0 || l.getD (i - 1) 0 == 32
def Clean (l : Bytes) (i : Nat) : Prop := ∀ j, j < i → isBad l j = false
theorem drop_get {l : Bytes} {i : Nat} (h : i < l.length) : l.drop i = l.getD i 0 :: l.drop (i + 1) := by
  rw [List.drop_eq_getElem_cons h]
  simp [List.getD, h]
theorem badByte_run {l : Bytes} (hl : l ≠ []) : ∀ i, i ≤ l.length → Clean l i → badByte true 0 l = badByte (gapAt l i) i (l.drop i)
  | 0, _, _ => by simp [gapAt]
  | i + 1, h, k => by
    have ih := badByte_run hl i (by omega) fun j hj => k j (by omega)
    have hb := k i (by omega)
    rw [ih, drop_get (show i < l.length by omega)]
    unfold isBad at hb
    by_cases hc : l.getD i 0 = 32
    · rw [if_pos hc] at hb
      simp only [Bool.or_eq_false_iff, beq_eq_false_iff_ne, ne_eq] at hb
      have e1 : gapAt l i = false := by
        simp only [gapAt, Bool.or_eq_false_iff, beq_eq_false_iff_ne, ne_eq]
        exact ⟨hb.1.1, hb.2⟩
      have e2 : gapAt l (i + 1) = true := by simp only [gapAt, Nat.add_sub_cancel, hc]; simp
      have e3 : (l.drop (i + 1)).isEmpty = false := by
        rw [List.isEmpty_eq_false_iff]
        intro z
        rw [List.drop_eq_nil_iff] at z
        omega
      rw [e1, e2, hc]
      simp [badByte, e3]
    · rw [if_neg hc] at hb
      simp only [Bool.or_eq_false_iff, decide_eq_false_iff_not] at hb
      have e2 : gapAt l (i + 1) = false := by
        simp only [gapAt, Nat.add_sub_cancel, Bool.or_eq_false_iff, beq_eq_false_iff_ne, ne_eq]
        exact ⟨by omega, hc⟩
      rw [e2]
      simp only [badByte, hc, hb.1, hb.2]
      simp
theorem badByte_at {l : Bytes} {i : Nat} (h : i < l.length) (k : Clean l i) (hb : isBad l i = true) : badByte true 0 l = some i := by
  have hl : l ≠ [] := by intro z; rw [z] at h; simp at h
  rw [badByte_run hl i (by omega) k, drop_get h]
  unfold isBad at hb
  by_cases hc : l.getD i 0 = 32
  · rw [if_pos hc] at hb
    rw [hc]
    by_cases hg : gapAt l i = true
    · simp [badByte, hg]
    · have e3 : (l.drop (i + 1)).isEmpty = true := by
        simp only [gapAt, Bool.or_eq_true, beq_iff_eq, not_or] at hg
        simp only [Bool.or_eq_true, beq_iff_eq] at hb
        rw [List.isEmpty_iff, List.drop_eq_nil_iff]
        rcases hb with (z | z) | z
        · exact absurd z hg.1
        · omega
        · exact absurd z hg.2
      simp [badByte, hg, e3]
  · rw [if_neg hc] at hb
    simp only [Bool.or_eq_true, decide_eq_true_eq] at hb
    simp only [badByte, hb, if_true]
theorem badByte_none {l : Bytes} (hl : l ≠ []) (k : Clean l l.length) : badByte true 0 l = none := by
  have hp : 0 < l.length := List.length_pos_iff.mpr hl
  rw [badByte_run hl l.length (Nat.le_refl _) k, List.drop_length]
  have hb := k (l.length - 1) (by omega)
  have e : gapAt l l.length = false := by
    unfold isBad at hb
    by_cases hc : l.getD (l.length - 1) 0 = 32
    · rw [if_pos hc] at hb
      simp only [Bool.or_eq_false_iff, beq_eq_false_iff_ne, ne_eq] at hb
      omega
    · simp only [gapAt, Bool.or_eq_false_iff, beq_eq_false_iff_ne, ne_eq]
      exact ⟨by omega, hc⟩
  simp [badByte, e]
theorem badByte_nil : badByte true 0 [] = some 0 := by simp [badByte]
theorem clean_of {l : Bytes} (h : badByte true 0 l = none) : l ≠ [] ∧ Clean l l.length := by
  have hl : l ≠ [] := by rintro rfl; simp [badByte] at h
  refine ⟨hl, ?_⟩
  have all : ∀ i, i ≤ l.length → Clean l i := by
    intro i
    induction i with
    | zero => intro _ j hj; omega
    | succ i ih =>
      intro hi
      have k := ih (by omega)
      intro j hj
      by_cases e : j = i
      · subst e
        cases hb : isBad l j with
        | false => rfl
        | true => rw [badByte_at (by omega) k hb] at h; cases h
      · exact k j (by omega)
  exact all _ (Nat.le_refl _)

/-! ### words -/
/-- the loop over a line at its i-th byte: the words so far, where the word under way begins -/
structure WRun (p : Nat) (l : Bytes) (i f : Nat) (ws : List Word) : Prop where
  le : f ≤ i
  eq : wordsFrom p [] l = ws ++ wordsFrom (p + i) ((l.take i).drop f) (l.drop i)
  ne : ∀ x ∈ ws, x.w ≠ []
  beg : f = 0 ∨ l.getD (f - 1) 0 = 32
theorem WRun.start (p : Nat) (l : Bytes) : WRun p l 0 0 [] := ⟨Nat.le_refl _, by simp, by simp, .inl rfl⟩
theorem wlen {l : Bytes} {i f : Nat} (hi : i ≤ l.length) : ((l.take i).drop f).length = i - f := by simp; omega
theorem WRun.blank {p : Nat} {l : Bytes} {i f : Nat} {ws : List Word} (R : WRun p l i f ws) (hi : i < l.length) (k : Clean l l.length) (hc : l.getD i 0 = 32) :
    WRun p l (i + 1) (i + 1) (ws ++ [⟨(l.take i).drop f, p + f⟩]) := by
  have hb := k i hi
  unfold isBad at hb
  rw [if_pos hc] at hb
  simp only [Bool.or_eq_false_iff, beq_eq_false_iff_ne, ne_eq] at hb
  have hlt : f < i := by
    rcases R.beg with z | z
    · have := R.le; omega
    · by_cases q : f = i
      · subst q; exact absurd z hb.2
      · have := R.le; omega
  have hw := wlen (f := f) (show i ≤ l.length by omega)
  refine ⟨Nat.le_refl _, ?_, ?_, .inr (by simpa using hc)⟩
  · rw [R.eq, drop_get hi, hc]
    have e1 : (l.take (i + 1)).drop (i + 1) = [] := by rw [List.drop_eq_nil_iff, List.length_take]; omega
    have e2 : p + i - ((l.take i).drop f).length = p + f := by rw [hw]; omega
    rw [e1]
    simp only [wordsFrom, if_true, e2]
    simp [Nat.add_assoc]
  · intro x hx
    rcases List.mem_append.mp hx with z | z
    · exact R.ne x z
    · simp at z
      subst z
      intro q
      have q' : (l.take i).drop f = [] := q
      rw [q'] at hw
      simp at hw
      omega
theorem WRun.sign {p : Nat} {l : Bytes} {i f : Nat} {ws : List Word} (R : WRun p l i f ws) (hi : i < l.length) (hc : l.getD i 0 ≠ 32) : WRun p l (i + 1) f ws := by
  refine ⟨by have := R.le; omega, ?_, R.ne, R.beg⟩
  have e : (l.take (i + 1)).drop f = (l.take i).drop f ++ [l.getD i 0] := by
    have h1 : l.take (i + 1) = l.take i ++ [l.getD i 0] := by
      rw [List.take_add_one]
      simp [List.getD, hi]
    rw [h1, List.drop_append_of_le_length (by rw [List.length_take]; have := R.le; omega)]
  rw [R.eq, drop_get hi, e]
  simp only [wordsFrom, hc, if_false]
  simp [Nat.add_assoc]
theorem WRun.last {p : Nat} {l : Bytes} {f : Nat} {ws : List Word} (R : WRun p l l.length f ws) (hl : l ≠ []) (k : Clean l l.length) :
    wordsFrom p [] l = ws ++ [⟨(l.take l.length).drop f, p + f⟩] ∧ (∀ x ∈ ws ++ [(⟨(l.take l.length).drop f, p + f⟩ : Word)], x.w ≠ []) := by
  have hp : 0 < l.length := List.length_pos_iff.mpr hl
  have hb := k (l.length - 1) (by omega)
  have hlt : f < l.length := by
    rcases R.beg with z | z
    · omega
    · by_cases q : f = l.length
      · subst q
        unfold isBad at hb
        rw [if_pos z] at hb
        simp only [Bool.or_eq_false_iff, beq_eq_false_iff_ne, ne_eq] at hb
        omega
      · have := R.le; omega
  have hw := wlen (f := f) (Nat.le_refl l.length)
  have hne : (l.take l.length).drop f ≠ [] := by
    intro q
    rw [q] at hw
    simp at hw
    omega
  refine ⟨?_, ?_⟩
  · have e2 : p + l.length - ((l.take l.length).drop f).length = p + f := by rw [hw]; omega
    have e3 : ((l.take l.length).drop f).isEmpty = false := by rw [List.isEmpty_eq_false_iff]; exact hne
    rw [R.eq, List.drop_length]
    simp only [wordsFrom, e3, e2]
    simp
  · intro x hx
    rcases List.mem_append.mp hx with z | z
    · exact R.ne x z
    · simp at z
      subst z
      simpa using hne
theorem slice_eq {t l : Bytes} {s n i f : Nat} (hl : l = (t.drop s).take n) (hi : i ≤ n) : (t.drop (s + f)).take (i - f) = (l.take i).drop f := by
  subst hl
  rw [List.take_take, Nat.min_eq_left hi, List.drop_take, List.drop_drop]
end CM
set_option linter.all false
namespace CM
open Tote

/-! ### names -/
theorem name_long {w : Bytes} (h : 12 < w.length) : isName w = false := by
  have : decide (w.length ≤ NAME) = false := decide_eq_false (by unfold NAME; omega)
  simp [isName, this]
theorem name_head {w : Bytes} (hw : w ≠ []) (h : isSmall (w.getD 0 0) = false) : isName w = false := by
  cases w with
  | nil => exact absurd rfl hw
  | cons c r =>
    have h' : isSmall c = false := by simpa using h
    simp [isName, h']
theorem name_bad {w : Bytes} {i : Nat} (hi : i < w.length) (h1 : isSmall (w.getD i 0) = false) (h2 : isDigit (w.getD i 0) = false) : isName w = false := by
  have hm : w.getD i 0 ∈ w := by
    rw [show w.getD i 0 = w[i] from by simp [List.getD, hi]]
    exact List.getElem_mem hi
  have : w.all (fun c => isSmall c || isDigit c) = false := by
    rw [List.all_eq_false]
    exact ⟨_, hm, by rw [h1, h2]; decide⟩
  simp [isName, this]
theorem name_good {w : Bytes} (hw : w ≠ []) (h0 : ¬ 12 < w.length) (h1 : isSmall (w.getD 0 0) = true) (h2 : ∀ i, i < w.length → isSmall (w.getD i 0) = true ∨ isDigit (w.getD i 0) = true) : isName w = true := by
  cases w with
  | nil => exact absurd rfl hw
  | cons c r =>
    have h1' : isSmall c = true := by simpa using h1
    have hall : ∀ x ∈ (c :: r), (isSmall x || isDigit x) = true := by
      intro x hx
      obtain ⟨i, hi, e⟩ := List.mem_iff_getElem.mp hx
      have := h2 i hi
      rw [show (c :: r).getD i 0 = x from by rw [← e, List.getD_eq_getElem?_getD, List.getElem?_eq_getElem hi]; rfl] at this
      simpa using this
    unfold isName
    simp only [Bool.and_eq_true, decide_eq_true_eq]
    refine ⟨by simp, by simpa [NAME] using h0, List.all_eq_true.mpr hall, by simp [h1']⟩

/-! ### numbers -/
def addDigit (n : Nat) (c : UInt8) : Nat := 10 * n + (c.toNat - 48)
theorem num_bad {w : Bytes} {i : Nat} (hi : i < w.length) (h : isDigit (w.getD i 0) = false) : numberOf w = none := by
  have hm : w.getD i 0 ∈ w := by
    rw [show w.getD i 0 = w[i] from by simp [List.getD, hi]]
    exact List.getElem_mem hi
  have : w.all isDigit = false := by
    rw [List.all_eq_false]
    exact ⟨_, hm, by rw [h]; decide⟩
  simp [numberOf, this]
theorem num_zero {w : Bytes} (hw : w ≠ []) (h : w.getD 0 0 = 48) (hl : 1 < w.length) : numberOf w = none := by
  have h1 : w.head? = some 48 := by
    cases w with
    | nil => exact absurd rfl hw
    | cons c r => have : c = 48 := by simpa using h
                  simp [this]
  have h2 : w ≠ [48] := by intro z; rw [z] at hl; simp at hl
  simp [numberOf, h1, h2]
theorem num_good {w : Bytes} (hw : w ≠ []) (h : ¬ (w.getD 0 0 = 48 ∧ 1 < w.length)) (hd : ∀ i, i < w.length → isDigit (w.getD i 0) = true) : numberOf w = some (w.foldl addDigit 0) := by
  have h1 : w.isEmpty = false := by rw [List.isEmpty_eq_false_iff]; exact hw
  have h2 : w.all isDigit = true := by
    rw [List.all_eq_true]
    intro x hx
    obtain ⟨i, hi, e⟩ := List.mem_iff_getElem.mp hx
    have := hd i hi
    rw [show w.getD i 0 = x from by rw [← e]; simp [List.getD, hi]] at this
    exact this
  have h3 : ¬ (w.head? = some 48 ∧ w ≠ [48]) := by
    rintro ⟨z1, z2⟩
    apply h
    cases w with
    | nil => exact absurd rfl hw
    | cons c r =>
      have : c = 48 := by simpa using z1
      subst this
      cases r with
      | nil => exact absurd rfl z2
      | cons d r => simp
  unfold numberOf
  rw [if_neg (by rintro (z | z | z); rw [h1] at z; cases z; rw [h2] at z; cases z; exact h3 z)]
  rfl
theorem fold_ge : ∀ (r : Bytes) (n : Nat), n * 10 ^ r.length ≤ r.foldl addDigit n
  | [], n => by simp
  | c :: r, n => by
    rw [List.foldl_cons]
    refine Nat.le_trans ?_ (fold_ge r _)
    rw [List.length_cons, Nat.pow_succ]
    calc n * (10 ^ r.length * 10) = (10 * n) * 10 ^ r.length := by rw [Nat.mul_comm (10 ^ r.length) 10, ← Nat.mul_assoc, Nat.mul_comm n 10]
      _ ≤ addDigit n c * 10 ^ r.length := Nat.mul_le_mul_right _ (by unfold addDigit; omega)
theorem num_long {w : Bytes} {n : Nat} (hl : 5 < w.length) (h : numberOf w = some n) : 100000 ≤ n := by
  unfold numberOf at h
  split at h
  · cases h
  · rename_i hn
    simp only [not_or, not_and, Bool.not_eq_true, Bool.not_eq_false] at hn
    have h' : w.foldl addDigit 0 = n := Option.some.inj h
    cases w with
    | nil => simp at hl
    | cons c r =>
      have hd : isDigit c = true := by
        have := List.all_eq_true.mp hn.2.1 c (by simp)
        exact this
      have hc : c ≠ 48 := by
        rintro rfl
        have := hn.2.2 (by simp)
        rw [Decidable.not_not] at this
        rw [this] at hl
        simp at hl
      have h49 : 49 ≤ c.toNat := by
        unfold isDigit at hd
        simp only [Bool.and_eq_true, decide_eq_true_eq] at hd
        have h1 : 48 ≤ c.toNat := by
          have := UInt8.le_iff_toNat_le.mp hd.1
          simpa using this
        have h2 : c.toNat ≠ 48 := by
          intro z
          apply hc
          exact UInt8.toNat_inj.mp (by simpa using z)
        omega
      rw [← h', List.foldl_cons]
      refine Nat.le_trans ?_ (fold_ge r _)
      have h1 : 1 ≤ addDigit 0 c := by unfold addDigit; omega
      have h2 : 10 ^ 5 ≤ 10 ^ r.length := Nat.pow_le_pow_right (by decide) (by simp at hl; omega)
      calc 100000 = 1 * 10 ^ 5 := by decide
        _ ≤ addDigit 0 c * 10 ^ r.length := Nat.mul_le_mul h1 h2
/-- the program's number: a long word is none -/
def numOf (w : Bytes) : Option Nat := if 5 < w.length then none else numberOf w
theorem number_cons {e lo hi : Nat} (hh : hi < 100000) (x : Word) (r : List Word) : number e lo hi (x :: r) = match numOf x.w with
    | none => .error ⟨4, x.at_⟩
    | some n => if n < lo ∨ hi < n then .error ⟨4, x.at_⟩ else .ok ((n, x.at_), r) := by
  show (match numberOf x.w with
    | none => Except.error (⟨4, x.at_⟩ : Fault)
    | some n => if n < lo ∨ hi < n then .error ⟨4, x.at_⟩ else .ok ((n, x.at_), r)) = _
  unfold numOf
  by_cases hl : 5 < x.w.length
  · rw [if_pos hl]
    cases h : numberOf x.w with
    | none => rfl
    | some n =>
      have := num_long hl h
      simp only
      rw [if_pos (.inr (by omega))]
  · rw [if_neg hl]
/-- a number's word, read from the left -/
theorem fold_take {w : Bytes} {i : Nat} (hi : i < w.length) : (w.take (i + 1)).foldl addDigit 0 = addDigit ((w.take i).foldl addDigit 0) (w.getD i 0) := by
  have h1 : w.take (i + 1) = w.take i ++ [w.getD i 0] := by
    rw [List.take_add_one]
    simp [List.getD, hi]
  rw [h1, List.foldl_append]
  rfl

/-! ### couples -/
def cSort (cs : List (Nat × Nat)) : List (Nat × Nat) := cs.foldl (fun l c => putB c l) []
theorem cSort_snoc (cs : List (Nat × Nat)) (c : Nat × Nat) : cSort (cs ++ [c]) = putB c (cSort cs) := by simp [cSort, List.foldl_append]
theorem putB_mem {c x : Nat × Nat} : ∀ {l : List (Nat × Nat)}, x ∈ putB c l ↔ x = c ∨ x ∈ l
  | [] => by simp [putB]
  | y :: l => by
    unfold putB
    split
    · simp
    · simp [putB_mem (l := l)]
      constructor
      · rintro (z | z | z) <;> simp [z]
      · rintro (z | z | z) <;> simp [z]
theorem putB_perm {c : Nat × Nat} : ∀ {l : List (Nat × Nat)}, (putB c l).Perm (c :: l)
  | [] => .refl _
  | y :: l => by
    unfold putB
    split
    · exact .refl _
    · exact (List.Perm.cons y (putB_perm (l := l))).trans (List.Perm.swap c y l)
theorem foldPut_perm : ∀ (cs l : List (Nat × Nat)), (cs.foldl (fun l c => putB c l) l).Perm (cs ++ l)
  | [], l => .refl _
  | c :: cs, l => by
    rw [List.foldl_cons]
    refine (foldPut_perm cs _).trans ?_
    refine (List.Perm.append_left cs putB_perm).trans ?_
    exact List.perm_middle
theorem cSort_perm (cs : List (Nat × Nat)) : (cSort cs).Perm cs := by
  have h := foldPut_perm cs []
  rw [List.append_nil] at h
  exact h
theorem cSort_len (cs : List (Nat × Nat)) : (cSort cs).length = cs.length := (cSort_perm cs).length_eq
theorem cSort_any (cs : List (Nat × Nat)) (p : Nat × Nat → Bool) : (cSort cs).any p = cs.any p := by
  rw [Bool.eq_iff_iff, List.any_eq_true, List.any_eq_true]
  constructor
  · rintro ⟨x, hx, h⟩; exact ⟨x, (cSort_perm cs).mem_iff.mp hx, h⟩
  · rintro ⟨x, hx, h⟩; exact ⟨x, (cSort_perm cs).mem_iff.mpr hx, h⟩

/-- couples as they may stand in a race's line -/
structure COk (n : Nat) (cs : List (Nat × Nat)) : Prop where
  nd : (cs.map (·.2)).Nodup
  at_ : ∀ c ∈ cs, 1 ≤ c.1 ∧ c.1 < c.2 ∧ c.2 ≤ n
theorem COk.nil (n : Nat) : COk n [] := ⟨by simp, by simp⟩
theorem COk.snoc {n a b : Nat} {cs : List (Nat × Nat)} (h : COk n cs) (h1 : 1 ≤ a) (h2 : a < b) (h3 : b ≤ n) (hb : cs.any (fun x => x.2 == b) = false) : COk n (cs ++ [(a, b)]) := by
  refine ⟨?_, ?_⟩
  · rw [List.map_append, List.nodup_append]
    refine ⟨h.nd, by simp, ?_⟩
    intro x hx y hy z
    simp at hy
    subst hy
    obtain ⟨c, hc, e⟩ := List.mem_map.mp hx
    have := List.any_eq_false.mp hb c hc
    simp at this
    exact this (e.trans z)
  · intro c hc
    rcases List.mem_append.mp hc with z | z
    · exact h.at_ c z
    · simp at z
      subst z
      exact ⟨h1, h2, h3⟩
theorem COk.sort {n : Nat} {cs : List (Nat × Nat)} (h : COk n cs) : COk n (cSort cs) :=
  ⟨((cSort_perm cs).map (·.2)).nodup_iff.mpr h.nd, fun c hc => h.at_ c ((cSort_perm cs).mem_iff.mp hc)⟩

theorem head_is {n m : Nat} {cs : List (Nat × Nat)} (h : COk n cs) : (Race.head ⟨n, cs⟩ m == m) = !(cs.any fun c => c.2 == m) := by
  unfold Race.head
  cases e : cs.find? fun c => c.2 == m with
  | none =>
    have : cs.any (fun c => c.2 == m) = false := by
      rw [List.any_eq_false]
      exact List.find?_eq_none.mp e
    simp [this]
  | some c =>
    have h1 := List.find?_some e
    have h2 := List.mem_of_find?_eq_some e
    have h3 := h.at_ c h2
    have h4 : c.2 = m := by simpa using h1
    have : cs.any (fun c => c.2 == m) = true := List.any_eq_true.mpr ⟨c, h2, h1⟩
    simp [this]
    omega
theorem filter_one {p : Nat → Bool} {b : Nat} : ∀ {l : List Nat}, l.Nodup → b ∈ l → p b = true → (l.filter fun m => p m && m != b).length + 1 = (l.filter p).length
  | [], _, h, _ => by simp at h
  | x :: l, nd, h, hp => by
    rw [List.nodup_cons] at nd
    by_cases e : x = b
    · subst e
      have : l.filter (fun m => p m && m != x) = l.filter p := by
        apply List.filter_congr
        intro y hy
        have : y ≠ x := by rintro rfl; exact nd.1 hy
        simp [this]
      simp [List.filter_cons, hp, this]
    · have hb : b ∈ l := by
        rcases List.mem_cons.mp h with z | z
        · exact absurd z.symm e
        · exact z
      have ih := filter_one nd.2 hb hp
      by_cases hx : p x = true
      · simp [List.filter_cons, hx, e]; omega
      · simp [List.filter_cons, hx]; exact ih
theorem count_out {l : List Nat} (nd : l.Nodup) : ∀ (bs : List Nat), bs.Nodup → (∀ b ∈ bs, b ∈ l) → (l.filter fun m => !(bs.any fun b => b == m)).length + bs.length = l.length
  | [], _, _ => by simp
  | b :: bs, nb, hb => by
    rw [List.nodup_cons] at nb
    have ih := count_out nd bs nb.2 fun x hx => hb x (by simp [hx])
    have hp : (!(bs.any fun x => x == b)) = true := by
      rw [Bool.not_eq_true', List.any_eq_false]
      intro x hx z
      have : x = b := by simpa using z
      subst this
      exact nb.1 hx
    have h1 := filter_one (p := fun m => !(bs.any fun x => x == m)) nd (hb b (by simp)) hp
    have e : (l.filter fun m => !((b :: bs).any fun x => x == m)) = l.filter fun m => (!(bs.any fun x => x == m)) && m != b := by
      apply List.filter_congr
      intro y _
      rw [List.any_cons, Bool.not_or, Bool.and_comm]
      congr 1
      rw [bne, Bool.beq_comm]
    rw [e, List.length_cons]
    omega
theorem nums_nodup (n : Nat) : ((List.range n).map fun i => i + 1).Nodup := by
  rw [List.nodup_iff_pairwise_ne, List.pairwise_map]
  refine List.Pairwise.imp ?_ (List.nodup_range (n := n))
  intro a b h
  omega
/-- **A3**: as many heads as runners less couples -/
theorem heads_len {n : Nat} {cs : List (Nat × Nat)} (h : COk n cs) : (Race.heads ⟨n, cs⟩).length + cs.length = n := by
  have := count_out (nums_nodup n) (cs.map (·.2)) h.nd (by
    intro b hb
    obtain ⟨c, hc, rfl⟩ := List.mem_map.mp hb
    have := h.at_ c hc
    simp only [List.mem_map, List.mem_range]
    exact ⟨c.2 - 1, by omega, by omega⟩)
  rw [List.length_map, List.length_map, List.length_range] at this
  refine Eq.trans ?_ this
  have e : Race.heads ⟨n, cs⟩ = ((List.range n).map fun i => i + 1).filter fun m => !((cs.map (·.2)).any fun b => b == m) := by
    unfold Race.heads
    apply List.filter_congr
    intro m _
    rw [head_is h, List.any_map]
    rfl
  rw [e]
end CM
set_option linter.all false
namespace CM
open Tote

/-! ### a line of a text -/
def lineFrom (t : Bytes) (p : Nat) : Except Fault Line := match upTo (t.drop p) with
  | none => .error ⟨1, t.length⟩
  | some (l, _) => match badByte true 0 l with
    | some i => .error ⟨2, p + i⟩
    | none => .ok ⟨wordsFrom p [] l, p + l.length⟩
theorem lines_from {σ : Type} {f : σ → Line → Except Fault σ} {k p : Nat} {s : σ} {t : Bytes} (hp : p < t.length) : linesIn f (k + 1) p s (t.drop p) = match lineFrom t p with
    | .error e => .error e
    | .ok L => match f s L with
      | .error e => .error e
      | .ok s' => linesIn f k (L.end_ + 1) s' (t.drop (L.end_ + 1)) := by
  have hb : (t.drop p).isEmpty = false := by
    rw [List.isEmpty_eq_false_iff]
    intro z
    rw [List.drop_eq_nil_iff] at z
    omega
  have hl : p + (t.drop p).length = t.length := by rw [List.length_drop]; omega
  unfold lineFrom
  rw [linesIn]
  rw [if_neg (by rw [hb]; decide)]
  cases h : upTo (t.drop p) with
  | none => simp only [hl]
  | some x =>
    obtain ⟨l, r⟩ := x
    have e := upTo_is h
    have er : t.drop (p + l.length + 1) = r := by
      rw [Nat.add_assoc, ← List.drop_drop, e, List.drop_append]
      simp
    simp only
    cases hb : badByte true 0 l with
    | some i => simp only
    | none =>
      simp only
      cases f s ⟨wordsFrom p [] l, p + l.length⟩ with
      | error e => simp only
      | ok s' => simp only [er]
theorem lines_end {σ : Type} {f : σ → Line → Except Fault σ} {k p : Nat} {s : σ} {t : Bytes} (hk : 0 < k) (hp : t.length ≤ p) : linesIn f k p s (t.drop p) = .ok s := by
  obtain ⟨k', rfl⟩ : ∃ k', k = k' + 1 := ⟨k - 1, by omega⟩
  rw [linesIn, List.drop_eq_nil_of_le hp]
  simp
def fin (n : Nat) : Except Fault (Option Card) → Except Fault Card
  | .error e => .error e
  | .ok none => .error ⟨1, n⟩
  | .ok (some C) => if C.races = [] then .error ⟨8, n⟩ else .ok C
theorem read_first (t : Bytes) : readCard t = match lineFrom t 0 with
    | .error e => .error e
    | .ok L => match lineIn none L with
      | .error e => .error e
      | .ok s' => fin t.length (linesIn lineIn t.length (L.end_ + 1) s' (t.drop (L.end_ + 1))) := by
  have h0 : readCard t = fin t.length (linesIn lineIn (t.length + 1) 0 none (t.drop 0)) := by
    unfold readCard fin
    rw [List.drop_zero]
    cases linesIn lineIn (t.length + 1) 0 none t with
    | error e => rfl
    | ok o => cases o <;> rfl
  rw [h0]
  by_cases ht : t = []
  · subst ht
    rfl
  · rw [lines_from (List.length_pos_iff.mpr ht)]
    cases lineFrom t 0 with
    | error e => rfl
    | ok L =>
      simp only
      cases lineIn none L with
      | error e => rfl
      | ok s' => rfl
/-- a line's end is in the text -/
theorem lineFrom_end {t : Bytes} {p : Nat} {L : Line} (h : lineFrom t p = .ok L) : p ≤ L.end_ ∧ L.end_ < t.length ∧ L.words ≠ [] ∧ ∀ x ∈ L.words, x.w ≠ [] := by
  unfold lineFrom at h
  cases hu : upTo (t.drop p) with
  | none => rw [hu] at h; cases h
  | some x =>
    obtain ⟨l, r⟩ := x
    rw [hu] at h
    simp only at h
    cases hb : badByte true 0 l with
    | some i => rw [hb] at h; cases h
    | none =>
      rw [hb] at h
      simp only at h
      cases h
      have e := congrArg List.length (upTo_is hu)
      rw [List.length_drop, List.length_append, List.length_cons] at e
      obtain ⟨hl, hc⟩ := clean_of hb
      -- the words of a clean line
      have run : ∀ i, i ≤ l.length → ∃ f ws, WRun p l i f ws := by
        intro i
        induction i with
        | zero => intro _; exact ⟨0, [], WRun.start p l⟩
        | succ i ih =>
          intro hi
          obtain ⟨f, ws, R⟩ := ih (by omega)
          by_cases hb : l.getD i 0 = 32
          · exact ⟨_, _, R.blank (by omega) hc hb⟩
          · exact ⟨_, _, R.sign (by omega) hb⟩
      obtain ⟨f, ws, R⟩ := run l.length (Nat.le_refl _)
      obtain ⟨e1, e2⟩ := R.last hl hc
      refine ⟨by simp, by simp only; omega, ?_, ?_⟩
      · simp only [e1]; simp
      · simp only [e1]; exact e2

/-! ### the first line -/
def dayOf (e : Nat) (l : List Word) : Except Fault Bytes := do
  let m ← must e "day" l
  let n ← newName e [] m
  let _ ← closed n.2
  return n.1
theorem lineIn_day (L : Line) : lineIn none L = (dayOf L.end_ L.words).map fun n => some ⟨n, [], []⟩ := by
  obtain ⟨ws, e⟩ := L
  cases ws with
  | nil => rfl
  | cons w r =>
    show (if w.w = ascii "day" then dayIn e r else .error ⟨3, w.at_⟩) = _
    unfold dayOf must
    by_cases hw : w.w = ascii "day"
    · rw [if_pos hw]
      show _ = Except.map _ (do
        let m ← (do
          let x ← (.ok (w, r) : Except Fault (Word × List Word))
          if x.1.w = ascii "day" then return x.2 else .error ⟨3, x.1.at_⟩)
        let n ← newName e [] m
        let _ ← closed n.2
        return n.1)
      have h1 : (do
          let x ← (.ok (w, r) : Except Fault (Word × List Word))
          if x.1.w = ascii "day" then return x.2 else .error ⟨3, x.1.at_⟩ : Except Fault (List Word)) = .ok r := by
        show (if w.w = ascii "day" then _ else _) = _
        rw [if_pos hw]
        rfl
      rw [h1]
      unfold dayIn
      show (do
        let n ← newName e [] r
        let _ ← closed n.2
        return some { noCard with name := n.1 }) = Except.map _ (do
        let n ← newName e [] r
        let _ ← closed n.2
        return n.1)
      cases newName e [] r with
      | error x => rfl
      | ok n =>
        show (do
          let _ ← closed n.2
          return some { noCard with name := n.1 }) = Except.map _ (do
          let _ ← closed n.2
          return n.1)
        cases closed n.2 with
        | error x => rfl
        | ok u => rfl
    · rw [if_neg hw]
      have h1 : (do
          let x ← next e (w :: r)
          if x.1.w = ascii "day" then return x.2 else .error ⟨3, x.1.at_⟩ : Except Fault (List Word)) = .error ⟨3, w.at_⟩ := by
        show (if w.w = ascii "day" then _ else _) = _
        rw [if_neg hw]
      rw [h1]
      rfl

/-! ### a race's line -/
def coupleOf (e n : Nat) (cs : List (Nat × Nat)) : List Word → Except Fault ((Nat × Nat) × List Word)
  | [] => .error ⟨3, e⟩
  | w :: m => if w.w = ascii "couple" then if cs.length = 8 then .error ⟨6, w.at_⟩ else
      match number e 1 n m with
      | .error x => .error x
      | .ok a => if (cs.any fun x => x.2 == a.1.1) = true then .error ⟨4, a.1.2⟩ else
        match number e (a.1.1 + 1) n a.2 with
        | .error x => .error x
        | .ok b => if (cs.any fun x => x.1 == b.1.1 || x.2 == b.1.1) = true then .error ⟨4, b.1.2⟩ else .ok ((a.1.1, b.1.1), b.2)
    else .error ⟨3, w.at_⟩
theorem coupleOf_cons {e n : Nat} {cs : List (Nat × Nat)} {w : Word} {m : List Word} : coupleOf e n cs (w :: m) = if w.w = ascii "couple" then if cs.length = 8 then .error ⟨6, w.at_⟩ else
      match number e 1 n m with
      | .error x => .error x
      | .ok a => if (cs.any fun x => x.2 == a.1.1) = true then .error ⟨4, a.1.2⟩ else
        match number e (a.1.1 + 1) n a.2 with
        | .error x => .error x
        | .ok b => if (cs.any fun x => x.1 == b.1.1 || x.2 == b.1.1) = true then .error ⟨4, b.1.2⟩ else .ok ((a.1.1, b.1.1), b.2)
    else .error ⟨3, w.at_⟩ := rfl
theorem number_ok {e lo hi : Nat} {l : List Word} {x : (Nat × Nat) × List Word} (h : number e lo hi l = .ok x) : lo ≤ x.1.1 ∧ x.1.1 ≤ hi ∧ ∃ w, l = w :: x.2 ∧ x.1.2 = w.at_ := by
  cases l with
  | nil => cases h
  | cons w r =>
    have h' : (match numberOf w.w with
      | none => Except.error (⟨4, w.at_⟩ : Fault)
      | some n => if n < lo ∨ hi < n then .error ⟨4, w.at_⟩ else .ok ((n, w.at_), r)) = .ok x := h
    cases hn : numberOf w.w with
    | none => rw [hn] at h'; cases h'
    | some n =>
      rw [hn] at h'
      simp only at h'
      split at h'
      · cases h'
      · rename_i q
        cases h'
        simp only [not_or, Nat.not_lt] at q
        exact ⟨q.1, q.2, w, rfl, rfl⟩
theorem number_low {e lo lo' hi : Nat} (hlo : lo ≤ lo') (l : List Word) : number e lo' hi l = match number e lo hi l with
    | .error x => .error x
    | .ok b => if b.1.1 < lo' then .error ⟨4, b.1.2⟩ else .ok b := by
  cases l with
  | nil => rfl
  | cons w r =>
    show (match numberOf w.w with
      | none => Except.error (⟨4, w.at_⟩ : Fault)
      | some n => if n < lo' ∨ hi < n then .error ⟨4, w.at_⟩ else .ok ((n, w.at_), r)) = (match (match numberOf w.w with
      | none => Except.error (⟨4, w.at_⟩ : Fault)
      | some n => if n < lo ∨ hi < n then .error ⟨4, w.at_⟩ else .ok ((n, w.at_), r)) with
      | .error x => .error x
      | .ok b => if b.1.1 < lo' then .error ⟨4, b.1.2⟩ else .ok b)
    cases numberOf w.w with
    | none => rfl
    | some n =>
      simp only
      by_cases h1 : n < lo ∨ hi < n
      · rw [if_pos h1, if_pos (by omega)]
      · rw [if_neg h1]
        simp only
        by_cases h2 : n < lo'
        · rw [if_pos (.inl h2), if_pos h2]
        · rw [if_neg (by omega), if_neg h2]
theorem couples_nil (e n k : Nat) (had : List (Nat × Nat)) : couplesIn e n k had [] = .ok had := by cases k <;> rfl
theorem couples_step {e n : Nat} {cs : List (Nat × Nat)} {l : List Word} (hc : cs.length ≤ 8) (hl : l ≠ []) : couplesIn e n (8 - cs.length) (cSort cs) l = match coupleOf e n cs l with
    | .error x => .error x
    | .ok x => couplesIn e n (8 - (cs ++ [x.1]).length) (cSort (cs ++ [x.1])) x.2 := by
  cases l with
  | nil => exact absurd rfl hl
  | cons w m =>
    by_cases h8 : cs.length = 8
    · rw [h8]
      show (if w.w = ascii "couple" then Except.error (⟨6, w.at_⟩ : Fault) else .error ⟨3, w.at_⟩) = _
      rw [coupleOf_cons]
      by_cases hw : w.w = ascii "couple"
      · rw [if_pos hw, if_pos hw, if_pos h8]
      · rw [if_neg hw, if_neg hw]
    · obtain ⟨k, hk⟩ : ∃ k, 8 - cs.length = k + 1 := ⟨8 - cs.length - 1, by omega⟩
      rw [hk]
      show (if (w :: m).isEmpty = true then Except.ok (cSort cs) else do
        let m ← must e "couple" (w :: m)
        let a ← number e 1 n m
        let _ ← holds (!((cSort cs).any fun x => x.2 == a.1.1)) 4 a.1.2
        let b ← number e 1 n a.2
        let _ ← holds (decide (a.1.1 < b.1.1) && !((cSort cs).any fun x => x.1 == b.1.1 || x.2 == b.1.1)) 4 b.1.2
        couplesIn e n k (putB (a.1.1, b.1.1) (cSort cs)) b.2) = _
      rw [if_neg (by simp)]
      rw [coupleOf_cons]
      by_cases hw : w.w = ascii "couple"
      · have h1 : must e "couple" (w :: m) = .ok m := by
          show (if w.w = ascii "couple" then _ else _) = _
          rw [if_pos hw]
          rfl
        rw [h1, if_pos hw, if_neg h8]
        show (do
          let a ← number e 1 n m
          let _ ← holds (!((cSort cs).any fun x => x.2 == a.1.1)) 4 a.1.2
          let b ← number e 1 n a.2
          let _ ← holds (decide (a.1.1 < b.1.1) && !((cSort cs).any fun x => x.1 == b.1.1 || x.2 == b.1.1)) 4 b.1.2
          couplesIn e n k (putB (a.1.1, b.1.1) (cSort cs)) b.2) = _
        cases ha : number e 1 n m with
        | error x => rfl
        | ok a =>
          show (do
            let _ ← holds (!((cSort cs).any fun x => x.2 == a.1.1)) 4 a.1.2
            let b ← number e 1 n a.2
            let _ ← holds (decide (a.1.1 < b.1.1) && !((cSort cs).any fun x => x.1 == b.1.1 || x.2 == b.1.1)) 4 b.1.2
            couplesIn e n k (putB (a.1.1, b.1.1) (cSort cs)) b.2) = _
          rw [cSort_any]
          simp only
          cases hin : cs.any fun x => x.2 == a.1.1 with
          | true => rfl
          | false =>
            show (do
              let b ← number e 1 n a.2
              let _ ← holds (decide (a.1.1 < b.1.1) && !((cSort cs).any fun x => x.1 == b.1.1 || x.2 == b.1.1)) 4 b.1.2
              couplesIn e n k (putB (a.1.1, b.1.1) (cSort cs)) b.2) = _
            rw [number_low (lo := 1) (lo' := a.1.1 + 1) (by omega)]
            simp only [Bool.false_eq_true, if_false]
            cases hb : number e 1 n a.2 with
            | error x => rfl
            | ok b =>
              show (do
                let _ ← holds (decide (a.1.1 < b.1.1) && !((cSort cs).any fun x => x.1 == b.1.1 || x.2 == b.1.1)) 4 b.1.2
                couplesIn e n k (putB (a.1.1, b.1.1) (cSort cs)) b.2) = _
              rw [cSort_any]
              simp only
              by_cases hab : b.1.1 < a.1.1 + 1
              · rw [if_pos hab, show decide (a.1.1 < b.1.1) = false from decide_eq_false (by omega)]
                rfl
              · rw [if_neg hab, show decide (a.1.1 < b.1.1) = true from decide_eq_true (by omega)]
                simp only
                cases hin2 : cs.any fun x => x.1 == b.1.1 || x.2 == b.1.1 with
                | true => rfl
                | false =>
                  simp only [Bool.false_eq_true, if_false]
                  rw [cSort_snoc, List.length_append]
                  show couplesIn e n k (putB (a.1.1, b.1.1) (cSort cs)) b.2 = _
                  congr 1
                  simp only [List.length_cons, List.length_nil]
                  omega
      · have h1 : must e "couple" (w :: m) = .error ⟨3, w.at_⟩ := by
          show (if w.w = ascii "couple" then _ else _) = _
          rw [if_neg hw]
        rw [h1, if_neg hw]
        rfl
theorem coupleOf_ok {e n : Nat} {cs : List (Nat × Nat)} {l : List Word} {x : (Nat × Nat) × List Word} (h : coupleOf e n cs l = .ok x) (hc : COk n cs) : COk n (cs ++ [x.1]) ∧ x.2.length < l.length ∧ cs.length ≠ 8 := by
  cases l with
  | nil => cases h
  | cons w m =>
    rw [coupleOf_cons] at h
    split at h
    · split at h
      · cases h
      · rename_i h8
        cases ha : number e 1 n m with
        | error y => rw [ha] at h; cases h
        | ok a =>
          rw [ha] at h
          simp only at h
          split at h
          · cases h
          · cases hb : number e (a.1.1 + 1) n a.2 with
            | error y => rw [hb] at h; cases h
            | ok b =>
              rw [hb] at h
              simp only at h
              split at h
              · cases h
              · rename_i hin
                cases h
                obtain ⟨a1, a2, wa, ea, _⟩ := number_ok ha
                obtain ⟨b1, b2, wb, eb, _⟩ := number_ok hb
                have hno : cs.any (fun x => x.2 == b.1.1) = false := by
                  rw [List.any_eq_false]
                  intro c hcm z
                  apply hin
                  rw [List.any_eq_true]
                  exact ⟨c, hcm, by simp [z]⟩
                refine ⟨hc.snoc a1 (by omega) b2 hno, ?_, h8⟩
                rw [ea, eb]
                simp
                omega
    · cases h
end CM
set_option linter.all false
namespace CM
open Tote

theorem race_not_pool : ascii "race" ≠ ascii "pool" := by decide
theorem lineIn_card (C : Card) (w : Word) (r : List Word) (e : Nat) : lineIn (some C) ⟨w :: r, e⟩ =
    if w.w = ascii "race" then (if C.pools ≠ [] then .error ⟨3, w.at_⟩ else if C.races.length = 16 then .error ⟨6, w.at_⟩ else if 16 < C.races.length then .error ⟨6, w.at_⟩ else withRace e C r)
    else if w.w = ascii "pool" then (if C.races = [] then .error ⟨3, w.at_⟩ else if C.pools.length = 64 then .error ⟨6, w.at_⟩ else if 64 < C.pools.length then .error ⟨6, w.at_⟩ else withPool e C r)
    else .error ⟨3, w.at_⟩ := by
  show (if w.w = ascii "race" ∧ C.pools = [] then (if RACES ≤ C.races.length then .error ⟨6, w.at_⟩ else withRace e C r)
    else if w.w = ascii "pool" ∧ C.races ≠ [] then (if POOLS ≤ C.pools.length then .error ⟨6, w.at_⟩ else withPool e C r) else .error ⟨3, w.at_⟩) = _
  by_cases h1 : w.w = ascii "race"
  · rw [if_pos h1]
    by_cases h2 : C.pools = []
    · rw [if_pos ⟨h1, h2⟩, if_neg (show ¬ (C.pools ≠ []) from fun z => z h2)]
      by_cases h3 : C.races.length = 16
      · rw [if_pos h3, if_pos (show RACES ≤ C.races.length by rw [h3]; decide)]
      · rw [if_neg h3]
        by_cases h4 : 16 < C.races.length
        · rw [if_pos h4, if_pos (show RACES ≤ C.races.length by unfold RACES; omega)]
        · rw [if_neg h4, if_neg (show ¬ RACES ≤ C.races.length by unfold RACES; omega)]
    · rw [if_neg (fun z => h2 z.2), if_pos h2, if_neg (fun z => race_not_pool (h1.symm.trans z.1))]
  · rw [if_neg (fun z => h1 z.1), if_neg h1]
    by_cases h2 : w.w = ascii "pool"
    · rw [if_pos h2]
      by_cases h3 : C.races = []
      · rw [if_neg (fun z => z.2 h3), if_pos h3]
      · rw [if_pos ⟨h2, h3⟩, if_neg h3]
        by_cases h4 : C.pools.length = 64
        · rw [if_pos h4, if_pos (show POOLS ≤ C.pools.length by rw [h4]; decide)]
        · rw [if_neg h4]
          by_cases h5 : 64 < C.pools.length
          · rw [if_pos h5, if_pos (show POOLS ≤ C.pools.length by unfold POOLS; omega)]
          · rw [if_neg h5, if_neg (show ¬ POOLS ≤ C.pools.length by unfold POOLS; omega)]
    · rw [if_neg (fun z => h2 z.1), if_neg h2]

/-- a race as the program holds it: its couples in the text's order -/
abbrev PRace := Nat × List (Nat × Nat)
def toRace (r : PRace) : Race := ⟨r.1, cSort r.2⟩
theorem race_heads {r : PRace} (h : COk r.1 r.2) : (toRace r).heads.length = r.1 - r.2.length := by
  have := heads_len h.sort
  rw [cSort_len] at this
  unfold toRace
  omega
theorem race_few {r : PRace} (h : COk r.1 r.2) : r.2.length ≤ r.1 := by
  have := heads_len h.sort
  rw [cSort_len] at this
  omega
end CM
set_option linter.all false
namespace CM
open Tote
/-! ### bytes as whole numbers -/
def I8 (b : Bytes) : List Int := b.map fun c => (c.toNat : Int)
theorem I8_len (b : Bytes) : (I8 b).length = b.length := by simp [I8]
theorem I8_get {b : Bytes} {i : Nat} (h : i < b.length) : (I8 b)[i]? = some ((b.getD i 0).toNat : Int) := by simp [I8, h, List.getD]
theorem I8_inj : ∀ {a b : Bytes}, I8 a = I8 b → a = b
  | [], [], _ => rfl
  | [], _ :: _, h => by simp [I8] at h
  | _ :: _, [], h => by simp [I8] at h
  | x :: a, y :: b, h => by
    simp only [I8, List.map_cons, List.cons.injEq] at h
    have h1 : x = y := UInt8.toNat_inj.mp (by omega)
    rw [h1, I8_inj (a := a) (b := b) h.2]
theorem I8_text {ns : List Int} (h : ∀ n ∈ ns, 0 ≤ n ∧ n ≤ 255) : I8 (CardNeutral.text ns) = ns := by
  induction ns with
  | nil => rfl
  | cons n r ih =>
    have h1 := h n (by simp)
    have h2 := ih fun x hx => h x (by simp [hx])
    have h3 : ((UInt8.ofNat n.toNat).toNat : Int) = n := by
      rw [UInt8.toNat_ofNat']
      omega
    show ((UInt8.ofNat n.toNat).toNat : Int) :: I8 (CardNeutral.text r) = _
    rw [h2, h3]
theorem u8_eq {c : UInt8} {k : Nat} (hk : k < 256) : ((c.toNat : Int) = (k : Int)) ↔ c = UInt8.ofNat k := by
  constructor
  · intro h
    apply UInt8.toNat_inj.mp
    rw [UInt8.toNat_ofNat']
    omega
  · rintro rfl
    rw [UInt8.toNat_ofNat']
    omega
theorem small_iff (c : UInt8) : isSmall c = (decide (97 ≤ (c.toNat : Int)) && decide ((c.toNat : Int) ≤ 122)) := by
  unfold isSmall
  have h1 : (97 ≤ c) = (97 ≤ (c.toNat : Int)) := by
    rw [UInt8.le_iff_toNat_le]
    show ((97 : Nat) ≤ c.toNat) = _
    simp only [eq_iff_iff]; omega
  have h2 : (c ≤ 122) = ((c.toNat : Int) ≤ 122) := by
    rw [UInt8.le_iff_toNat_le]
    show (c.toNat ≤ (122 : Nat)) = _
    simp only [eq_iff_iff]; omega
  simp only [h1, h2]
theorem digit_iff (c : UInt8) : isDigit c = (decide (48 ≤ (c.toNat : Int)) && decide ((c.toNat : Int) ≤ 57)) := by
  unfold isDigit
  have h1 : (48 ≤ c) = (48 ≤ (c.toNat : Int)) := by
    rw [UInt8.le_iff_toNat_le]
    show ((48 : Nat) ≤ c.toNat) = _
    simp only [eq_iff_iff]; omega
  have h2 : (c ≤ 57) = ((c.toNat : Int) ≤ 57) := by
    rw [UInt8.le_iff_toNat_le]
    show (c.toNat ≤ (57 : Nat)) = _
    simp only [eq_iff_iff]; omega
  simp only [h1, h2]
/-! ### a text in ASCII -/
def codes (s : String) : List Nat := s.toList.map Char.toNat
theorem ascii_codes {s : String} (h : ∀ c ∈ s.toList, c.toNat < 256) : I8 (ascii s) = (codes s).map fun (n : Nat) => (n : Int) := by
  unfold ascii I8 codes
  rw [List.map_map, List.map_map]
  apply List.map_congr_left
  intro c hc
  have := h c hc
  simp only [Function.comp]
  rw [UInt8.toNat_ofNat']
  omega
end CM
set_option maxRecDepth 100000
set_option maxHeartbeats 4000000
set_option linter.all false
set_option Elab.async false
namespace RC
open PySem L2
/-! ### the text by places -/
def top (i : Nat) : Stmt := PySem.Challenge.pw_racecards_s02_one_text.main.body.getD i (.Pass ⟨0, 0, 0, 0⟩)
abbrev sFI : Stmt := inClass (top 10) 0
abbrev sLI : Stmt := inClass (top 21) 0
abbrev sAny : Stmt := inClass (top 21) 1
abbrev sNext : Stmt := inClass (top 21) 2
abbrev sChoice : Stmt := inClass (top 21) 3
abbrev sFixed : Stmt := inClass (top 21) 4
abbrev sTName : Stmt := inClass (top 21) 5
abbrev sNum : Stmt := inClass (top 21) 6
abbrev sRule : Stmt := inClass (top 21) 7
abbrev sFin : Stmt := inClass (top 21) 8
abbrev sBytes : Stmt := top 22
abbrev sLetter : Stmt := top 23
abbrev sDigit : Stmt := top 24
abbrev sIsName : Stmt := top 25
abbrev sNumOf : Stmt := top 26
abbrev sLEnd : Stmt := top 27
abbrev sBad : Stmt := top 28
abbrev sCheck : Stmt := top 29
abbrev sSplit : Stmt := top 30
abbrev sLFrom : Stmt := top 31
abbrev sRI : Stmt := inClass (top 45) 0
abbrev sInt : Stmt := inClass (top 45) 1
abbrev sByB : Stmt := inClass (top 45) 3
abbrev sPI : Stmt := inClass (top 46) 0
abbrev sCI : Stmt := inClass (top 47) 0
abbrev sDay : Stmt := top 48
abbrev sCouple : Stmt := top 49
abbrev sRace : Stmt := top 50
abbrev sPName : Stmt := top 51
abbrev sPool : Stmt := top 52
abbrev sAddR : Stmt := top 53
abbrev sAddP : Stmt := top 54
abbrev sCard : Stmt := top 55
abbrev sRText : Stmt := top 57
abbrev sPText : Stmt := top 58
abbrev sCText : Stmt := top 59
abbrev sAnswer : Stmt := top 65
abbrev sCOne : Stmt := top 66
set_option genInjectivity false in
set_option genSizeOf false in
set_option genSizeOfSpec false in
structure Ad where
  CF : Addr
  CL : Addr
  CR : Addr
  CP : Addr
  CC : Addr
  fFI : Addr
  dFI : FuncData
  fLI : Addr
  dLI : FuncData
  fAny : Addr
  dAny : FuncData
  fNext : Addr
  dNext : FuncData
  fChoice : Addr
  dChoice : FuncData
  fFixed : Addr
  dFixed : FuncData
  fTName : Addr
  dTName : FuncData
  fNum : Addr
  dNum : FuncData
  fRule : Addr
  dRule : FuncData
  fFin : Addr
  dFin : FuncData
  fBytes : Addr
  dBytes : FuncData
  fLetter : Addr
  dLetter : FuncData
  fDigit : Addr
  dDigit : FuncData
  fIsName : Addr
  dIsName : FuncData
  fNumOf : Addr
  dNumOf : FuncData
  fLEnd : Addr
  dLEnd : FuncData
  fBad : Addr
  dBad : FuncData
  fCheck : Addr
  dCheck : FuncData
  fSplit : Addr
  dSplit : FuncData
  fLFrom : Addr
  dLFrom : FuncData
  fRI : Addr
  dRI : FuncData
  fInt : Addr
  dInt : FuncData
  fByB : Addr
  dByB : FuncData
  fPI : Addr
  dPI : FuncData
  fCI : Addr
  dCI : FuncData
  fDay : Addr
  dDay : FuncData
  fCouple : Addr
  dCouple : FuncData
  fRace : Addr
  dRace : FuncData
  fPName : Addr
  dPName : FuncData
  fPool : Addr
  dPool : FuncData
  fAddR : Addr
  dAddR : FuncData
  fAddP : Addr
  dAddP : FuncData
  fCard : Addr
  dCard : FuncData
  fRText : Addr
  dRText : FuncData
  fPText : Addr
  dPText : FuncData
  fCText : Addr
  dCText : FuncData
  fAnswer : Addr
  dAnswer : FuncData
  fCOne : Addr
  dCOne : FuncData
  hHEADINGS : Addr
  hKINDS : Addr
  hLEASTK : Addr
  hMOSTK : Addr
  hNONES : Addr
  hNONESOFPLACE : Addr
/-- what the top has written -/
structure Txt (K : PySem.W.Frag) (mg : Str → Option Value) (a : Ad) : Prop where
  FFI : Fun K "__init__" "Fault.__init__" sFI a.fFI a.dFI
  bFI : Binds K a.dFI ["self", "kind", "place"] []
  FLI : Fun K "__init__" "Line.__init__" sLI a.fLI a.dLI
  bLI : Binds K a.dLI ["self", "words", "end"] []
  FAny : Fun K "any_left" "Line.any_left" sAny a.fAny a.dAny
  bAny : Binds K a.dAny ["self"] []
  mAny : Meth K a.CL "any_left" a.fAny
  FNext : Fun K "next_word" "Line.next_word" sNext a.fNext a.dNext
  bNext : Binds K a.dNext ["self"] []
  mNext : Meth K a.CL "next_word" a.fNext
  FChoice : Fun K "take_choice" "Line.take_choice" sChoice a.fChoice a.dChoice
  bChoice : Binds K a.dChoice ["self", "choices"] []
  mChoice : Meth K a.CL "take_choice" a.fChoice
  FFixed : Fun K "take_fixed" "Line.take_fixed" sFixed a.fFixed a.dFixed
  bFixed : Binds K a.dFixed ["self", "wanted"] []
  mFixed : Meth K a.CL "take_fixed" a.fFixed
  FTName : Fun K "take_name" "Line.take_name" sTName a.fTName a.dTName
  bTName : Binds K a.dTName ["self"] []
  mTName : Meth K a.CL "take_name" a.fTName
  FNum : Fun K "take_number" "Line.take_number" sNum a.fNum a.dNum
  bNum : Binds K a.dNum ["self", "low", "high"] []
  mNum : Meth K a.CL "take_number" a.fNum
  FRule : Fun K "take_rule" "Line.take_rule" sRule a.fRule a.dRule
  bRule : Binds K a.dRule ["self", "wanted", "low", "high"] []
  mRule : Meth K a.CL "take_rule" a.fRule
  FFin : Fun K "finish" "Line.finish" sFin a.fFin a.dFin
  bFin : Binds K a.dFin ["self"] []
  mFin : Meth K a.CL "finish" a.fFin
  FBytes : Fun K "bytes_of" "bytes_of" sBytes a.fBytes a.dBytes
  bBytes : Binds K a.dBytes ["words"] []
  gBytes : mg "bytes_of" = some (.ref a.fBytes)
  FLetter : Fun K "is_letter" "is_letter" sLetter a.fLetter a.dLetter
  bLetter : Binds K a.dLetter ["byte"] []
  gLetter : mg "is_letter" = some (.ref a.fLetter)
  FDigit : Fun K "is_digit" "is_digit" sDigit a.fDigit a.dDigit
  bDigit : Binds K a.dDigit ["byte"] []
  gDigit : mg "is_digit" = some (.ref a.fDigit)
  FIsName : Fun K "is_name" "is_name" sIsName a.fIsName a.dIsName
  bIsName : Binds K a.dIsName ["word"] []
  gIsName : mg "is_name" = some (.ref a.fIsName)
  FNumOf : Fun K "number_of" "number_of" sNumOf a.fNumOf a.dNumOf
  bNumOf : Binds K a.dNumOf ["word"] []
  gNumOf : mg "number_of" = some (.ref a.fNumOf)
  FLEnd : Fun K "line_end" "line_end" sLEnd a.fLEnd a.dLEnd
  bLEnd : Binds K a.dLEnd ["text", "start"] []
  gLEnd : mg "line_end" = some (.ref a.fLEnd)
  FBad : Fun K "is_bad_byte" "is_bad_byte" sBad a.fBad a.dBad
  bBad : Binds K a.dBad ["text", "place", "start", "end"] []
  gBad : mg "is_bad_byte" = some (.ref a.fBad)
  FCheck : Fun K "check_bytes" "check_bytes" sCheck a.fCheck a.dCheck
  bCheck : Binds K a.dCheck ["text", "start", "end"] []
  gCheck : mg "check_bytes" = some (.ref a.fCheck)
  FSplit : Fun K "split_words" "split_words" sSplit a.fSplit a.dSplit
  bSplit : Binds K a.dSplit ["text", "start", "end"] []
  gSplit : mg "split_words" = some (.ref a.fSplit)
  FLFrom : Fun K "line_from" "line_from" sLFrom a.fLFrom a.dLFrom
  bLFrom : Binds K a.dLFrom ["text", "start"] []
  gLFrom : mg "line_from" = some (.ref a.fLFrom)
  FRI : Fun K "__init__" "Race.__init__" sRI a.fRI a.dRI
  bRI : Binds K a.dRI ["self", "runners"] []
  FInt : Fun K "interests" "Race.interests" sInt a.fInt a.dInt
  bInt : Binds K a.dInt ["self"] []
  mInt : Meth K a.CR "interests" a.fInt
  FByB : Fun K "couples_by_b" "Race.couples_by_b" sByB a.fByB a.dByB
  bByB : Binds K a.dByB ["self"] []
  mByB : Meth K a.CR "couples_by_b" a.fByB
  FPI : Fun K "__init__" "Pool.__init__" sPI a.fPI a.dPI
  bPI : Binds K a.dPI ["self", "name", "kind", "k", "race", "take", "brk", "least", "unit", "none"] []
  FCI : Fun K "__init__" "Card.__init__" sCI a.fCI a.dCI
  bCI : Binds K a.dCI ["self", "day_name"] []
  FDay : Fun K "read_day" "read_day" sDay a.fDay a.dDay
  bDay : Binds K a.dDay ["line"] []
  gDay : mg "read_day" = some (.ref a.fDay)
  FCouple : Fun K "read_couple" "read_couple" sCouple a.fCouple a.dCouple
  bCouple : Binds K a.dCouple ["line", "race"] []
  gCouple : mg "read_couple" = some (.ref a.fCouple)
  FRace : Fun K "read_race" "read_race" sRace a.fRace a.dRace
  bRace : Binds K a.dRace ["line"] []
  gRace : mg "read_race" = some (.ref a.fRace)
  FPName : Fun K "read_pool_name" "read_pool_name" sPName a.fPName a.dPName
  bPName : Binds K a.dPName ["line", "card"] []
  gPName : mg "read_pool_name" = some (.ref a.fPName)
  FPool : Fun K "read_pool" "read_pool" sPool a.fPool a.dPool
  bPool : Binds K a.dPool ["line", "card"] []
  gPool : mg "read_pool" = some (.ref a.fPool)
  FAddR : Fun K "add_race" "add_race" sAddR a.fAddR a.dAddR
  bAddR : Binds K a.dAddR ["line", "card"] []
  gAddR : mg "add_race" = some (.ref a.fAddR)
  FAddP : Fun K "add_pool" "add_pool" sAddP a.fAddP a.dAddP
  bAddP : Binds K a.dAddP ["line", "card"] []
  gAddP : mg "add_pool" = some (.ref a.fAddP)
  FCard : Fun K "read_card" "read_card" sCard a.fCard a.dCard
  bCard : Binds K a.dCard ["text"] []
  gCard : mg "read_card" = some (.ref a.fCard)
  FRText : Fun K "race_text" "race_text" sRText a.fRText a.dRText
  bRText : Binds K a.dRText ["race"] []
  gRText : mg "race_text" = some (.ref a.fRText)
  FPText : Fun K "pool_text" "pool_text" sPText a.fPText a.dPText
  bPText : Binds K a.dPText ["pool"] []
  gPText : mg "pool_text" = some (.ref a.fPText)
  FCText : Fun K "card_text" "card_text" sCText a.fCText a.dCText
  bCText : Binds K a.dCText ["card"] []
  gCText : mg "card_text" = some (.ref a.fCText)
  FAnswer : Fun K "answer_of" "answer_of" sAnswer a.fAnswer a.dAnswer
  bAnswer : Binds K a.dAnswer ["text", "tell"] []
  gAnswer : mg "answer_of" = some (.ref a.fAnswer)
  FCOne : Fun K "one_text" "one_text" sCOne a.fCOne a.dCOne
  bCOne : Binds K a.dCOne ["text"] []
  gCOne : mg "one_text" = some (.ref a.fCOne)
  gCF : mg "Fault" = some (.ref a.CF)
  xF : XCls K a.CF a.fFI
  gCL : mg "Line" = some (.ref a.CL)
  cCL : Cls K a.CL
  kCL : Mk K a.CL a.fLI
  nCL_words : NoAttr K a.CL "words"
  nCL_end : NoAttr K a.CL "end"
  nCL_taken : NoAttr K a.CL "taken"
  nCL_place : NoAttr K a.CL "place"
  gCR : mg "Race" = some (.ref a.CR)
  cCR : Cls K a.CR
  kCR : Mk K a.CR a.fRI
  nCR_runners : NoAttr K a.CR "runners"
  nCR_couples : NoAttr K a.CR "couples"
  gCP : mg "Pool" = some (.ref a.CP)
  cCP : Cls K a.CP
  kCP : Mk K a.CP a.fPI
  nCP_name : NoAttr K a.CP "name"
  nCP_kind : NoAttr K a.CP "kind"
  nCP_k : NoAttr K a.CP "k"
  nCP_race : NoAttr K a.CP "race"
  nCP_take : NoAttr K a.CP "take"
  nCP_brk : NoAttr K a.CP "brk"
  nCP_least : NoAttr K a.CP "least"
  nCP_unit : NoAttr K a.CP "unit"
  nCP_none : NoAttr K a.CP "none"
  gCC : mg "Card" = some (.ref a.CC)
  cCC : Cls K a.CC
  kCC : Mk K a.CC a.fCI
  nCC_day_name : NoAttr K a.CC "day_name"
  nCC_races : NoAttr K a.CC "races"
  nCC_pools : NoAttr K a.CC "pools"
  v_NOTENDED : ∃ t, mg "NOT_ENDED" = some (.int 1 t)
  v_BADBYTE : ∃ t, mg "BAD_BYTE" = some (.int 2 t)
  v_BADWORD : ∃ t, mg "BAD_WORD" = some (.int 3 t)
  v_BADVALUE : ∃ t, mg "BAD_VALUE" = some (.int 4 t)
  v_NAMEISTHERE : ∃ t, mg "NAME_IS_THERE" = some (.int 5 t)
  v_TOOMANY : ∃ t, mg "TOO_MANY" = some (.int 6 t)
  v_FEWINTERESTS : ∃ t, mg "FEW_INTERESTS" = some (.int 7 t)
  v_NORACE : ∃ t, mg "NO_RACE" = some (.int 8 t)
  v_NL : ∃ t, mg "NL" = some (.int 10 t)
  v_BLANK : ∃ t, mg "BLANK" = some (.int 32 t)
  v_LASTSIGN : ∃ t, mg "LAST_SIGN" = some (.int 126 t)
  v_DIGIT0 : ∃ t, mg "DIGIT_0" = some (.int 48 t)
  v_DIGIT9 : ∃ t, mg "DIGIT_9" = some (.int 57 t)
  v_LETTERA : ∃ t, mg "LETTER_A" = some (.int 97 t)
  v_LETTERZ : ∃ t, mg "LETTER_Z" = some (.int 122 t)
  v_MOSTNAME : ∃ t, mg "MOST_NAME" = some (.int 12 t)
  v_MOSTDIGITS : ∃ t, mg "MOST_DIGITS" = some (.int 5 t)
  v_MOSTRACES : ∃ t, mg "MOST_RACES" = some (.int 16 t)
  v_MOSTPOOLS : ∃ t, mg "MOST_POOLS" = some (.int 64 t)
  v_MOSTCOUPLES : ∃ t, mg "MOST_COUPLES" = some (.int 8 t)
  v_RACELINE : ∃ t, mg "RACE_LINE" = some (.int 0 t)
  v_PLACE : ∃ t, mg "PLACE" = some (.int 0 t)
  v_LEGS : ∃ t, mg "LEGS" = some (.int 3 t)
  v_MOSTBYTES : ∃ t, mg "MOST_BYTES" = some (.int 65536 t)
  v_DONE : ∃ t, mg "DONE" = some (.int 0 t)
  v_TOOLONG : ∃ t, mg "TOO_LONG" = some (.int (-2) t)
  v_FAULTY : ∃ t, mg "FAULTY" = some (.int (-6) t)
  g_HEADINGS : mg "HEADINGS" = some (.ref a.hHEADINGS)
  t_HEADINGS : ∀ H, SqT K H a.hHEADINGS [.str "race", .str "pool"]
  g_KINDS : mg "KINDS" = some (.ref a.hKINDS)
  t_KINDS : ∀ H, SqT K H a.hKINDS [.str "place", .str "order", .str "any", .str "legs"]
  g_LEASTK : mg "LEAST_K" = some (.ref a.hLEASTK)
  t_LEASTK : ∀ H, SqT K H a.hLEASTK [.int 1, .int 2, .int 2, .int 2]
  g_MOSTK : mg "MOST_K" = some (.ref a.hMOSTK)
  t_MOSTK : ∀ H, SqT K H a.hMOSTK [.int 4, .int 4, .int 3, .int 6]
  g_NONES : mg "NONES" = some (.ref a.hNONES)
  t_NONES : ∀ H, SqT K H a.hNONES [.str "refund", .str "carry", .str "fewer"]
  g_NONESOFPLACE : mg "NONES_OF_PLACE" = some (.ref a.hNONESOFPLACE)
  t_NONESOFPLACE : ∀ H, SqT K H a.hNONESOFPLACE [.str "refund", .str "carry"]
  z_len : mg "len" = none
  z_ord : mg "ord" = none
  z_range : mg "range" = none
  z_enumerate : mg "enumerate" = none
  z_sorted : mg "sorted" = none
  z_str : mg "str" = none
/-! ### helpers -/
section
variable {X : Cx}
theorem pe_gi {x : Str} {v : Int} {pos : Pos} (hg : Gl X x) (h : ∃ t, X.mg x = some (.int v t)) (hd : (x == ("__debug__" : Str)) = false := by decide) : PE X (.Name x pos) (tC (.int v)) := by
  obtain ⟨t, e⟩ := h
  exact pe_glob hg e ⟨t, rfl⟩ hd
theorem pe_gr {x : Str} {a : Addr} {pos : Pos} (hg : Gl X x) (h : X.mg x = some (.ref a)) (hd : (x == ("__debug__" : Str)) = false := by decide) : PE X (.Name x pos) (tC (.ref a)) := pe_glob hg h rfl hd
end
/-- what is kept: all but p -/
def Fr1 (p : Addr) (H H' : Hp) : Prop := ∀ b o, H b = some o → b ≠ p → H' b = some o
theorem Fr1.trans {p : Addr} {H H1 H2 : Hp} (a : Fr1 p H H1) (b : Fr1 p H1 H2) : Fr1 p H H2 := fun c o h n => b c o (a c o h n) n
theorem Fr1.of_same {p : Addr} {H H' : Hp} (a : Same H H') : Fr1 p H H' := fun c o h _ => a c o h
theorem same_new {H : Hp} {a : Addr} {o : HO} (h : H a = none) : Same H (upd H a o) := fun b u e => by rw [upd_ne (ne_of_none e h)]; exact e
theorem Fr1.upd {p : Addr} {H : Hp} {o : HO} : Fr1 p H (upd H p o) := fun b u e n => by rw [upd_ne n]; exact e
theorem Fr1.seqT {K : PySem.W.Frag} {p a : Addr} {H H' : Hp} {xs : List V} {C dx : Addr} {fs : List (Str × V)} (f : Fr1 p H H') (hp : H p = some (.ins C dx fs)) (h : SqT K H a xs) : SqT K H' a xs := by
  rcases h with (h | ⟨o, h⟩) | h
  · exact .inl (.inl (f a _ h (ne_of h hp (by intro z; cases z))))
  · exact .inl (.inr ⟨o, f a _ h (ne_of h hp (by intro z; cases z))⟩)
  · exact .inr h
/-- what is wanted of an outcome: the fault, or the rest -/
def Out {α : Type} (E : XK) (C : Addr) (r : Except Tote.Fault α) (k : α → Prop) : Prop := match r with
  | .error f => Flt E C f.kind f.place
  | .ok a => k a
theorem Out.bind {α β : Type} {E : XK} {C : Addr} {r : Except Tote.Fault α} {g : α → Except Tote.Fault β} {k : β → Prop} (h : Out E C (r >>= g) k) : Out E C r fun a => Out E C (g a) k := by
  cases r with
  | error f => exact h
  | ok a => exact h
theorem Out.mono {α : Type} {E : XK} {C : Addr} {r : Except Tote.Fault α} {k k' : α → Prop} (h : Out E C r k) (f : ∀ a, r = .ok a → k a → k' a) : Out E C r k' := by
  cases r with
  | error f => exact h
  | ok a => exact f a rfl h
theorem Out.to {α : Type} {E : XK} {C : Addr} {r r' : Except Tote.Fault α} {k : α → Prop} (e : r = r') (h : Out E C r' k) : Out E C r k := by
  rw [e]; exact h
def WordAt (H : Hp) (x : Addr) (w : Tote.Bytes) : Prop := H x = some (.lst ((CM.I8 w).map V.int))
/-! ### Line -/
theorem n_we : ¬ (("words" : Str) = "end") := by decide +kernel
theorem n_wt : ¬ (("words" : Str) = "taken") := by decide +kernel
theorem n_wp : ¬ (("words" : Str) = "place") := by decide +kernel
theorem n_et : ¬ (("end" : Str) = "taken") := by decide +kernel
theorem n_ep : ¬ (("end" : Str) = "place") := by decide +kernel
theorem n_tp : ¬ (("taken" : Str) = "place") := by decide +kernel
def lf (l : Addr) (e i p : Int) : List (Str × V) := [("words", .ref l), ("end", .int e), ("taken", .int i), ("place", .int p)]
theorem lf_words (l : Addr) (e i p : Int) : (lf l e i p).lookup ("words" : Str) = some (.ref l) := by
  unfold lf; rw [List.lookup_cons_self]
theorem lk_skip {f g : Str} {v : V} {r : List (Str × V)} (h : ¬ (f = g)) : List.lookup g ((f, v) :: r) = r.lookup g := by
  rw [List.lookup_cons, show (g == f) = false from beq_eq_false_iff_ne.mpr fun z => h z.symm]
theorem lf_end (l : Addr) (e i p : Int) : (lf l e i p).lookup ("end" : Str) = some (.int e) := by
  unfold lf; rw [lk_skip n_we, List.lookup_cons_self]
theorem lf_taken (l : Addr) (e i p : Int) : (lf l e i p).lookup ("taken" : Str) = some (.int i) := by
  unfold lf; rw [lk_skip n_wt, lk_skip n_et, List.lookup_cons_self]
theorem lf_place (l : Addr) (e i p : Int) : (lf l e i p).lookup ("place" : Str) = some (.int p) := by
  unfold lf; rw [lk_skip n_wp, lk_skip n_ep, lk_skip n_tp, List.lookup_cons_self]
theorem lf_no (l : Addr) (e i p : Int) {m : Str} (h1 : ¬ ("words" : Str) = m) (h2 : ¬ ("end" : Str) = m) (h3 : ¬ ("taken" : Str) = m) (h4 : ¬ ("place" : Str) = m) : (lf l e i p).lookup m = none := by
  unfold lf; rw [lk_skip h1, lk_skip h2, lk_skip h3, lk_skip h4]; rfl
theorem put_skip {f g : Str} {v w : V} {r : List (Str × V)} (h : ¬ (g = f)) : putF f v ((g, w) :: r) = (g, w) :: putF f v r := by
  show (if g = f then (g, v) :: r else (g, w) :: putF f v r) = _
  rw [if_neg h]
theorem put_here {f : Str} {v w : V} {r : List (Str × V)} : putF f v ((f, w) :: r) = (f, v) :: r := by
  show (if f = f then (f, v) :: r else (f, w) :: putF f v r) = _
  rw [if_pos rfl]
theorem lf_put_taken (l : Addr) (e i p j : Int) : putF "taken" (.int j) (lf l e i p) = lf l e j p := by
  unfold lf; rw [put_skip n_wt, put_skip n_et, put_here]
theorem lf_put_place (l : Addr) (e i p j : Int) : putF "place" (.int j) (lf l e i p) = lf l e i j := by
  unfold lf; rw [put_skip n_wp, put_skip n_ep, put_skip n_tp, put_here]
theorem lf_made (l : Addr) (e : Int) : putF "place" (.int e) (putF "taken" (.int 0) (putF "end" (.int e) (putF "words" (.ref l) []))) = lf l e 0 e := by
  unfold lf
  show putF "place" (.int e) (putF "taken" (.int 0) (putF "end" (.int e) [("words", .ref l)])) = _
  rw [put_skip n_we]
  show putF "place" (.int e) (putF "taken" (.int 0) [("words", .ref l), ("end", .int e)]) = _
  rw [put_skip n_wt, put_skip n_et]
  show putF "place" (.int e) [("words", .ref l), ("end", .int e), ("taken", .int 0)] = _
  rw [put_skip n_wp, put_skip n_ep, put_skip n_tp]
  rfl
/-- the words of a line as they stand -/
def WordsAt (H : Hp) (l : Addr) (ws : List Tote.Word) : Prop := ∃ ts : List Addr, H l = some (.lst (ts.map V.ref)) ∧ ts.length = ws.length ∧
  ∀ (j : Nat) (t : Addr), ts[j]? = some t → ∃ (w : Tote.Word) (x : Addr), ws[j]? = some w ∧ H t = some (.tup [.int w.at_, .ref x]) ∧ WordAt H x w.w
theorem WordsAt.keep {H H' : Hp} {p l : Addr} {ws : List Tote.Word} {C dx : Addr} {fs : List (Str × V)} (h : WordsAt H l ws) (hp : H p = some (.ins C dx fs)) (f : Fr1 p H H') : WordsAt H' l ws := by
  obtain ⟨ts, h1, h2, h3⟩ := h
  refine ⟨ts, f l _ h1 (ne_of h1 hp (by intro z; cases z)), h2, fun j t q => ?_⟩
  obtain ⟨w, x, a, b, c⟩ := h3 j t q
  exact ⟨w, x, a, f t _ b (ne_of b hp (by intro z; cases z)), f x _ c (ne_of c hp (by intro z; cases z))⟩
/-- the line at p: its end, the words that are left, the place of the word taken last -/
structure Ln (C : Addr) (H : Hp) (p : Addr) (e : Nat) (l : List Tote.Word) (pl : Int) : Prop where
  ex : ∃ (dx lw : Addr) (ws : List Tote.Word) (i : Nat), H p = some (.ins C dx (lf lw e i pl)) ∧ WordsAt H lw ws ∧ ws.drop i = l ∧ i ≤ ws.length ∧ ws ≠ [] ∧ ws.length < 1000000 ∧ ∀ w ∈ ws, w.w ≠ []
theorem Ln.ins {C : Addr} {H : Hp} {p : Addr} {e : Nat} {l : List Tote.Word} {pl : Int} (h : Ln C H p e l pl) : ∃ (dx lw : Addr) (i : Nat), H p = some (.ins C dx (lf lw e i pl)) := by
  obtain ⟨dx, lw, ws, i, q, _⟩ := h.ex
  exact ⟨dx, lw, i, q⟩
theorem Ln.same {C : Addr} {H H' : Hp} {p : Addr} {e : Nat} {l : List Tote.Word} {pl : Int} (h : Ln C H p e l pl) (s : Same H H') : Ln C H' p e l pl := by
  obtain ⟨dx, lw, ws, i, q, ⟨ts, h1, h2, h3⟩, r⟩ := h.ex
  refine ⟨dx, lw, ws, i, s _ _ q, ⟨ts, s _ _ h1, h2, fun j t q => ?_⟩, r⟩
  obtain ⟨w, x, a, b, c⟩ := h3 j t q
  exact ⟨w, x, a, s _ _ b, s _ _ c⟩
theorem Ln.words {C : Addr} {H : Hp} {p : Addr} {e : Nat} {l : List Tote.Word} {pl : Int} (h : Ln C H p e l pl) : ∀ w ∈ l, w.w ≠ [] := by
  obtain ⟨dx, lw, ws, i, q, _, rfl, _, _, _, r⟩ := h.ex
  exact fun w hw => r w (List.mem_of_mem_drop hw)

/-! ### promises -/
inductive SpLI (C : Addr) (vs : List V) (H : Hp) (Q : VK) (E : XK) : Prop
  | mk (p dx l : Addr) (e : Int) (h0 : vs = [.ref p, .ref l, .int e]) (h1 : H p = some (.ins C dx [])) (h2 : Q .non (upd H p (.ins C dx (lf l e 0 e)))) : SpLI C vs H Q E
abbrev spLI (C : Addr) : Sp := fun vs H Q E => SpLI C vs H Q E
inductive SpAny (C : Addr) (vs : List V) (H : Hp) (Q : VK) (E : XK) : Prop
  | mk (p : Addr) (e : Nat) (l : List Tote.Word) (pl : Int) (h0 : vs = [.ref p]) (h1 : Ln C H p e l pl) (h2 : Q (.bl (!l.isEmpty)) H) : SpAny C vs H Q E
abbrev spAny (C : Addr) : Sp := fun vs H Q E => SpAny C vs H Q E
inductive SpNext (C D : Addr) (vs : List V) (H : Hp) (Q : VK) (E : XK) : Prop
  | mk (p : Addr) (e : Nat) (l : List Tote.Word) (pl : Int) (h0 : vs = [.ref p]) (h1 : Ln C H p e l pl) (h2 : Out E D (Tote.next e l) fun y => ∀ (H' : Hp) (x : Addr), Ln C H' p e y.2 y.1.at_ → Fr1 p H H' → WordAt H' x y.1.w → Q (.ref x) H') : SpNext C D vs H Q E
abbrev spNext (C D : Addr) : Sp := fun vs H Q E => SpNext C D vs H Q E
inductive SpBytes (vs : List V) (H : Hp) (Q : VK) (E : XK) : Prop
  | mk (s : Str) (h0 : vs = [.str s]) (h1 : s.length ≤ 1000) (h2 : ∀ (H' : Hp) (x : Addr), H x = none → Same H H' → H' x = some (.lst (s.cps.toList.map fun (c : Nat) => V.int c)) → Q (.ref x) H') : SpBytes  vs H Q E
abbrev spBytes : Sp := fun vs H Q E => SpBytes  vs H Q E
inductive SpLetter (vs : List V) (H : Hp) (Q : VK) (E : XK) : Prop
  | mk (c : Int) (h0 : vs = [.int c]) (h1 : Q (.bl (decide (97 ≤ c) && decide (c ≤ 122))) H) : SpLetter  vs H Q E
abbrev spLetter : Sp := fun vs H Q E => SpLetter  vs H Q E
inductive SpDigit (vs : List V) (H : Hp) (Q : VK) (E : XK) : Prop
  | mk (c : Int) (h0 : vs = [.int c]) (h1 : Q (.bl (decide (48 ≤ c) && decide (c ≤ 57))) H) : SpDigit  vs H Q E
abbrev spDigit : Sp := fun vs H Q E => SpDigit  vs H Q E
inductive SpIsName (vs : List V) (H : Hp) (Q : VK) (E : XK) : Prop
  | mk (x : Addr) (w : Tote.Bytes) (h0 : vs = [.ref x]) (h1 : WordAt H x w) (h2 : w ≠ []) (h3 : Q (.bl (Tote.isName w)) H) : SpIsName  vs H Q E
abbrev spIsName : Sp := fun vs H Q E => SpIsName  vs H Q E
def vNum : Option Nat → V
  | none => .non
  | some n => .int n
inductive SpNumOf (vs : List V) (H : Hp) (Q : VK) (E : XK) : Prop
  | mk (x : Addr) (w : Tote.Bytes) (h0 : vs = [.ref x]) (h1 : WordAt H x w) (h2 : w ≠ []) (h3 : Q (vNum (CM.numOf w)) H) : SpNumOf  vs H Q E
abbrev spNumOf : Sp := fun vs H Q E => SpNumOf  vs H Q E
section
variable {P : Program} {w : World} {K : PySem.W.Frag} {mg : Str → Option Value} {base : Heap} {a : Ad}
theorem Fun.okF {x qual : Str} {st : Stmt} {f : Addr} {fd : FuncData} {N ps : List Str} {k : Nat} {sp : Sp} (F : Fun K x qual st f fd) (S : FnScope N ps (defScope st)) (len : ∀ vs H Q E, sp vs H Q E → vs.length = ps.length)
    (hbody : ∀ (cdv : Value) (A : Around) (outer : List Env) (s : Shared) (H : Hp) (vs : List V) (Q : VK) (E : XK), Room k (A.deeper (PyProof.Rows.envOfC qual (defScope st) s.heap.objs.size f cdv)) → sp vs H Q E →
      ∃ t, PSs (cxOf (CXF P w) P w K mg base N qual (defScope st) f cdv A outer s H E) (defBody st) t ∧ t { nx := fun _ H' => Q .non H', rt := Q } (start N vs) H) : FnOk P w K mg base (CXF P w) (k + 1) f fd ps sp := by
  obtain ⟨oc, od, kV, doc, pm, an, cdv, ct, osl, rfl, lk, hcd⟩ := F.ex
  exact fn_of lk hcd S len fun A outer s H vs Q E hr hsp => hbody cdv A outer s H vs Q E hr hsp

theorem scLetter : FnScope ["byte"] ["byte"] (defScope sLetter) := FnScope.of (by decide +kernel)
theorem ok_letter (T : Txt K mg a) : FnOk P w K mg base CX0 1 a.fLetter a.dLetter ["byte"] spLetter := by
  refine T.FLetter.ok scLetter (fun vs H Q E h => ?_) (fun cdv A outer s H vs Q E hr h => ?_)
  · obtain ⟨c, rfl, _⟩ := h
    rfl
  · obtain ⟨c, rfl, q⟩ := h
    refine ⟨_, pss_one (ps_ret (pe_chain op_le op_le (pe_gi rfl T.v_LETTERA) (pv 0) (pe_gi rfl T.v_LETTERZ))), ?_⟩
    try dsimp only [L2.cxOf]
    refine ⟨_, rfl, _, _, rfl, rfl, _, rfl, ?_⟩
    refine ite2 (fun h => ⟨_, _, rfl, rfl, ?_⟩) (fun h => ?_)
    · rw [show (decide (97 ≤ c) && decide (c ≤ 122)) = decide (c ≤ 122) from by rw [h, Bool.true_and]] at q
      exact q
    · rw [show (decide (97 ≤ c) && decide (c ≤ 122)) = false from by rw [Bool.not_eq_true] at h; rw [h, Bool.false_and]] at q
      exact q
theorem scDigit : FnScope ["byte"] ["byte"] (defScope sDigit) := FnScope.of (by decide +kernel)
theorem ok_digit (T : Txt K mg a) : FnOk P w K mg base CX0 1 a.fDigit a.dDigit ["byte"] spDigit := by
  refine T.FDigit.ok scDigit (fun vs H Q E h => ?_) (fun cdv A outer s H vs Q E hr h => ?_)
  · obtain ⟨c, rfl, _⟩ := h
    rfl
  · obtain ⟨c, rfl, q⟩ := h
    refine ⟨_, pss_one (ps_ret (pe_chain op_le op_le (pe_gi rfl T.v_DIGIT0) (pv 0) (pe_gi rfl T.v_DIGIT9))), ?_⟩
    try dsimp only [L2.cxOf]
    refine ⟨_, rfl, _, _, rfl, rfl, _, rfl, ?_⟩
    refine ite2 (fun h => ⟨_, _, rfl, rfl, ?_⟩) (fun h => ?_)
    · rw [show (decide (48 ≤ c) && decide (c ≤ 57)) = decide (c ≤ 57) from by rw [h, Bool.true_and]] at q
      exact q
    · rw [show (decide (48 ≤ c) && decide (c ≤ 57)) = false from by rw [Bool.not_eq_true] at h; rw [h, Bool.false_and]] at q
      exact q
theorem scFI : FnScope ["self", "kind", "place"] ["self", "kind", "place"] (defScope sFI) := FnScope.of (by decide +kernel)
theorem ok_FI (T : Txt K mg a) : FnOk P w K mg base CX0 1 a.fFI a.dFI ["self", "kind", "place"] (spFault a.CF) := by
  refine T.FFI.ok scFI (fun vs H Q E h => ?_) (fun cdv A outer s H vs Q E hr h => ?_)
  · obtain ⟨e, k, p, rfl, _⟩ := h
    rfl
  · obtain ⟨e, k, p, rfl, he, q⟩ := h
    refine ⟨_, pss_cons (ps_xfld1 T.xF (pv 0) (pv 1) rfl) (pss_one (ps_xfld2 T.xF (pv 0) (pv 2) rfl)), ?_⟩
    try dsimp only [L2.cxOf]
    refine ⟨_, rfl, _, rfl, e, rfl, he, .inl rfl, fun d nd ne => ?_⟩
    refine ⟨_, rfl, _, rfl, e, d, [("kind", .int k)], rfl, upd_same, ?_, ne, (by show 1 < 1000; decide), .inr rfl, ?_⟩
    · rw [upd_ne ne, upd_same]
    · refine q d _ ?_ upd_same ne
      rw [upd_ne ne.symm, upd_same]
theorem scLI : FnScope ["self", "words", "end"] ["self", "words", "end"] (defScope sLI) := FnScope.of (by decide +kernel)
theorem ok_LI (T : Txt K mg a) : FnOk P w K mg base CX0 1 a.fLI a.dLI ["self", "words", "end"] (spLI a.CL) := by
  refine T.FLI.ok scLI (fun vs H Q E h => ?_) (fun cdv A outer s H vs Q E hr h => ?_)
  · obtain ⟨p, dx, l, e, rfl, _⟩ := h
    rfl
  · obtain ⟨p, dx, l, e, rfl, hp, q⟩ := h
    refine ⟨_, pss_cons (ps_fld (pv 0) (pv 1) rfl) (pss_cons (ps_fld (pv 0) (pv 2) rfl) (pss_cons (ps_fld (pv 0) pe_int rfl) (pss_one (ps_fld (pv 0) (pv 2) rfl)))), ?_⟩
    try dsimp only [L2.cxOf]
    refine ⟨_, rfl, _, rfl, p, a.CL, dx, [], rfl, hp, T.cCL, T.nCL_words, (by show 0 < 1000; decide), ?_⟩
    refine ⟨_, rfl, _, rfl, p, a.CL, dx, _, rfl, upd_same, T.cCL, T.nCL_end, (by have := length_putF "words" (V.ref l) []; show _ < 1000; simp only [List.length_nil] at this; omega), ?_⟩
    refine ⟨_, rfl, p, a.CL, dx, _, rfl, upd_same, T.cCL, T.nCL_taken, (by have h1 := length_putF "words" (V.ref l) []; have h2 := length_putF "end" (V.int e) (putF "words" (V.ref l) []); simp only [List.length_nil] at h1; omega), ?_⟩
    refine ⟨_, rfl, _, rfl, p, a.CL, dx, _, rfl, upd_same, T.cCL, T.nCL_place, (by have h1 := length_putF "words" (V.ref l) []; have h2 := length_putF "end" (V.int e) (putF "words" (V.ref l) []); have h3 := length_putF "taken" (V.int 0) (putF "end" (V.int e) (putF "words" (V.ref l) [])); simp only [List.length_nil] at h1; omega), ?_⟩
    rw [upd_upd, upd_upd, upd_upd, lf_made]
    exact q
theorem scAny : FnScope ["self"] ["self"] (defScope sAny) := FnScope.of (by decide +kernel)
theorem ok_any (T : Txt K mg a) : FnOk P w K mg base CX0 1 a.fAny a.dAny ["self"] (spAny a.CL) := by
  refine T.FAny.ok scAny (fun vs H Q E h => ?_) (fun cdv A outer s H vs Q E hr h => ?_)
  · obtain ⟨p, e, l, pl, rfl, _⟩ := h
    rfl
  · obtain ⟨p, e, l, pl, rfl, L, q⟩ := h
    obtain ⟨dx, lw, ws, i, hp, ⟨ts, h1, h2, h3⟩, hl, hi, _⟩ := L.ex
    refine ⟨_, pss_one (ps_ret (pe_cmpR op_lt (pe_fld (pv 0) rfl) (pe_callB call_len_seq (by rfl) T.z_len PySem.boot_len (pa_cons (pe_fld (pv 0) rfl) pa_nil)) (nomark _))), ?_⟩
    try dsimp only [L2.cxOf]
    refine ⟨_, rfl, p, a.CL, dx, _, _, rfl, hp, T.cCL, T.nCL_taken, lf_taken _ _ _ _, _, rfl, p, a.CL, dx, _, _, rfl, hp, T.cCL, T.nCL_words, lf_words _ _ _ _, lw, _, rfl, .inl (SqL.of h1), _, _, rfl, rfl, ?_⟩
    have e1 : decide ((i : Int) < ((ts.map V.ref).length : Nat)) = !l.isEmpty := by
      rw [List.length_map, h2, ← hl]
      by_cases z : i < ws.length
      · have : ws.drop i ≠ [] := fun y => by rw [List.drop_eq_nil_iff] at y; omega
        rw [decide_eq_true (by omega)]
        cases q : ws.drop i with
        | nil => exact absurd q this
        | cons _ _ => rfl
      · rw [decide_eq_false (by omega), List.drop_eq_nil_of_le (by omega)]
        rfl
    show Q (V.bl (decide ((i : Int) < ((ts.map V.ref).length : Nat)))) H
    rw [e1]
    exact q
end
end RC
set_option maxRecDepth 100000
set_option maxHeartbeats 4000000
set_option linter.all false
set_option Elab.async false
namespace RC
open PySem L2
section
variable {P : Program} {w : World} {K : PySem.W.Frag} {mg : Str → Option Value} {base : Heap} {a : Ad}
theorem scBytes : FnScope ["words", "sign"] ["words"] (defScope sBytes) := FnScope.of (by decide +kernel)
theorem ok_bytes (T : Txt K mg a) : FnOk P w K mg base CX0 1 a.fBytes a.dBytes ["words"] spBytes := by
  refine T.FBytes.ok scBytes (fun vs H Q E h => ?_) (fun cdv A outer s H vs Q E hr h => ?_)
  · obtain ⟨s, rfl, _⟩ := h
    rfl
  · obtain ⟨x, rfl, hx, q⟩ := h
    refine ⟨_, pss_one (ps_ret (pe_lc (own := [("sign", 1)]) rfl scBytes.nd (pi_str (pv 0)) (show BlkOk ["words", "sign"] (defScope sBytes) _ _ from blkOk_by (by decide +kernel)) (fun s H C cl fp => pg_name (i := 1) scBytes.nd rfl (Or.inl rfl)) (fun s H C cl fp => pts_nil)
      (fun s H C cl fp => pe_callB call_ord (by rfl) T.z_ord PyProof.Rows.boot_ord (pa_cons (pv 1) pa_nil)))), ?_⟩
    try dsimp only [L2.cxOf]
    refine ⟨_, rfl, x, rfl, fun D hD => lc_str (x := x) (fun i H' => H' = upd H D (.lst ((x.cps.toList.take i).map fun (c : Nat) => V.int c))) rfl ?_ ?_⟩
    · rintro i c H' hc rfl
      refine ⟨rfl, ?_⟩
      unfold tYes
      dsimp only
      rw [if_pos rfl]
      refine ⟨_, rfl, ⟨#[c]⟩, rfl, rfl, _, upd_same, ?_, ?_⟩
      · rw [List.length_map, List.length_take]
        have : x.cps.toList.length = x.length := by simp [Str.length]
        rw [sizeLine_eq]; omega
      · rw [upd_upd]
        congr 2
        have hc' : x.cps.toList[i]? = some c := by simpa using hc
        rw [List.take_add_one, hc']
        simp
    · rintro H' rfl
      refine q _ D hD (same_new hD) ?_
      rw [upd_same, List.take_of_length_le (by simp)]
theorem scNext : FnScope ["self", "placed"] ["self"] (defScope sNext) := FnScope.of (by decide +kernel)
theorem ok_next (T : Txt K mg a) : FnOk P w K mg base (CXF P w) 3 a.fNext a.dNext ["self"] (spNext a.CL a.CF) := by
  refine Fun.okF T.FNext scNext (fun vs H Q E h => ?_) (fun cdv A outer s H vs Q E hr h => ?_)
  · obtain ⟨p, e, l, pl, rfl, _⟩ := h
    rfl
  · obtain ⟨p, e, l, pl, rfl, L, q⟩ := h
    obtain ⟨dx, lw, ws, i, hp, W, hl, hi, hne, hbig, hww⟩ := id L.ex
    refine ⟨_, pss_cons (ps_if (pt_not (pt_val (pe_meth0 (pv 0) T.cCL T.mAny (ok_any T) (hr.mono (by decide)) T.bAny .nil pass0)))
        (pss_one (ps_flt T.xF (ok_FI T) (hr.mono (by decide)) rfl T.gCF T.bFI (pa_cons (pe_gi rfl T.v_BADWORD) (pa_cons (pe_fld (pv 0) rfl) pa_nil)))) pss_nil)
      (pss_cons (ps_set (i := 1) scNext.nd rfl (Or.inl rfl) (pe_ix ix_list (pe_fld (pv 0) rfl) (pe_fld (pv 0) rfl) (fun _ _ => rfl)))
      (pss_cons (ps_fldaug (pv 0) pe_int in_add)
      (pss_cons (ps_fld (pv 0) (pe_ix ix_tup (pv 1) pe_int (fun _ _ => rfl)) rfl)
      (pss_one (ps_ret (pe_ix ix_tup (pv 1) pe_int (fun _ _ => rfl))))))), ?_⟩
    try dsimp only [L2.cxOf]
    refine ⟨_, rfl, p, dx, _, rfl, hp, lf_no _ _ _ _ (by decide +kernel) (by decide +kernel) (by decide +kernel) (by decide +kernel), p, e, l, pl, rfl, L, _, rfl, ?_⟩
    cases l with
    | nil =>
      refine iteT ?_
      exact ⟨_, rfl, p, a.CL, dx, _, _, rfl, hp, T.cCL, T.nCL_end, lf_end _ _ _ _, flt_in q⟩
    | cons y r =>
      refine iteF ?_
      obtain ⟨ts, h1, h2, h3⟩ := W
      have hlt : i < ws.length := by
        have := congrArg List.length hl
        rw [List.length_drop, List.length_cons] at this
        omega
      have hw : ws[i]? = some y := by
        have := congrArg (fun z => z[0]?) hl
        simpa using this
      obtain ⟨t, ht⟩ : ∃ t, ts[i]? = some t := ⟨ts[i]'(by omega), List.getElem?_eq_getElem _⟩
      obtain ⟨y', x, hy', hT, hX⟩ := h3 i t ht
      obtain rfl : y' = y := Option.some.inj (hy'.symm.trans hw)
      have ntp : t ≠ p := ne_of hT hp (by intro z; cases z)
      refine ⟨_, rfl, p, a.CL, dx, _, _, rfl, hp, T.cCL, T.nCL_words, lf_words _ _ _ _, _, rfl, p, a.CL, dx, _, _, rfl, hp, T.cCL, T.nCL_taken, lf_taken _ _ _ _, lw, _, _, _, rfl, rfl, SqL.of h1, atI_nat (j := i) (v := V.ref t) (by rw [List.getElem?_map, ht]; rfl), ?_⟩
      refine ⟨_, rfl, p, a.CL, dx, _, _, rfl, hp, T.cCL, T.nCL_taken, lf_taken _ _ _ _, _, _, rfl, rfl, dx, _, hp, (by show 4 < 1000; decide), ?_⟩
      rw [lf_put_taken]
      refine ⟨_, rfl, t, [.int y'.at_, .ref x], 0, .int y'.at_, rfl, rfl, SqT.of (by rw [upd_ne ntp]; exact hT), rfl, _, rfl, p, a.CL, dx, _, rfl, upd_same, T.cCL, T.nCL_place, (by show 4 < 1000; decide), ?_⟩
      rw [lf_put_place, upd_upd]
      refine ⟨_, rfl, t, [.int y'.at_, .ref x], 1, .ref x, rfl, rfl, SqT.of (by rw [upd_ne ntp]; exact hT), rfl, ?_⟩
      have xp : x ≠ p := ne_of hX hp (by intro z; cases z)
      have ei : ((i : Int) + 1) = ((i + 1 : Nat) : Int) := by omega
      refine q _ x ⟨dx, lw, ws, i + 1, ?_, WordsAt.keep ⟨ts, h1, h2, h3⟩ hp Fr1.upd, ?_, hlt, hne, hbig, hww⟩ Fr1.upd ?_
      · rw [upd_same, ei]
      · have := congrArg (List.drop 1) hl
        rw [List.drop_drop, List.drop_succ_cons, List.drop_zero] at this
        exact this
      · show upd H p _ x = _
        rw [upd_ne xp]; exact hX
theorem scIsName : FnScope ["word", "byte"] ["word"] (defScope sIsName) := FnScope.of (by decide +kernel)
theorem wget {w : Tote.Bytes} {i : Nat} (h : i < w.length) : ((CM.I8 w).map V.int)[i]? = some (V.int ((w.getD i 0).toNat : Int)) := by
  rw [List.getElem?_map, CM.I8_get h]; rfl
theorem wlen {w : Tote.Bytes} : ((CM.I8 w).map V.int).length = w.length := by rw [List.length_map, CM.I8_len]
theorem ok_isname (T : Txt K mg a) : FnOk P w K mg base CX0 2 a.fIsName a.dIsName ["word"] spIsName := by
  refine T.FIsName.ok scIsName (fun vs H Q E h => ?_) (fun cdv A outer s H vs Q E hr h => ?_)
  · obtain ⟨x, w, rfl, _⟩ := h
    rfl
  · obtain ⟨x, w, rfl, hx, hw, q⟩ := h
    have hpos : 0 < w.length := List.length_pos_iff.mpr hw
    refine ⟨_, pss_cons (ps_if (PW.pt (pw_or (pt_cmpR op_gt (pe_callB call_len_seq (by rfl) T.z_len PySem.boot_len (pa_cons (pv 0) pa_nil)) (pe_gi rfl T.v_MOSTNAME) (nomark _))
        (pw_or1 (pt_not (pt_val (pe_call (ok_letter T) hr rfl T.gLetter T.FLetter.kp T.bLetter .nil pass0 (pa_cons (pe_ix ix_list (pv 0) pe_int (fun _ _ => rfl)) pa_nil))))))) (pss_one (ps_ret pe_bl)) pss_nil)
      (pss_cons (ps_for PassesOwn.never rfl (pi_list (pv 0)) (pg_name (i := 1) scIsName.nd rfl (Or.inl rfl))
        (pss_one (ps_if (PW.pt (pw_and (pt_not (pt_val (pe_call (ok_letter T) hr rfl T.gLetter T.FLetter.kp T.bLetter .nil pass0 (pa_cons (pv 1) pa_nil))))
          (pw_and1 (pt_not (pt_val (pe_call (ok_digit T) hr rfl T.gDigit T.FDigit.kp T.bDigit .nil pass0 (pa_cons (pv 1) pa_nil))))))) (pss_one (ps_ret pe_bl)) pss_nil)))
      (pss_one (ps_ret pe_bl))), ?_⟩
    try dsimp only [L2.cxOf]
    refine ⟨_, rfl, x, _, rfl, .inl (SqL.of hx), _, _, rfl, rfl, _, rfl, ?_⟩
    rw [wlen]
    have sm : ∀ i, (decide (97 ≤ ((w.getD i 0).toNat : Int)) && decide (((w.getD i 0).toNat : Int) ≤ 122)) = Tote.isSmall (w.getD i 0) := fun i => (CM.small_iff _).symm
    have dg : ∀ i, (decide (48 ≤ ((w.getD i 0).toNat : Int)) && decide (((w.getD i 0).toNat : Int) ≤ 57)) = Tote.isDigit (w.getD i 0) := fun i => (CM.digit_iff _).symm
    refine ite2 (fun h12 => ?_) (fun h12 => ?_)
    · rw [CM.name_long (by have := of_decide_eq_true h12; omega)] at q
      exact iteT q
    · refine ⟨_, rfl, x, _, _, _, rfl, rfl, SqL.of hx, atI_nat (j := 0) (wget hpos), _, rfl, _, rfl, ?_⟩
      rw [sm 0]
      cases hs : Tote.isSmall (w.getD 0 0) with
      | false =>
        rw [CM.name_head hw hs] at q
        exact iteT q
      | true =>
        refine iteF ?_
        refine ⟨_, rfl, x, rfl, ⟨_, SqL.of hx⟩, for_list (K := K) (a := x) (xs := (CM.I8 w).map V.int) (fun i σ H2 => ∃ v : Option V, σ = [some (.ref x), v] ∧ H2 = H ∧ ∀ j, j < i → Tote.isSmall (w.getD j 0) = true ∨ Tote.isDigit (w.getD j 0) = true)
          ⟨none, rfl, rfl, fun j hj => absurd hj (Nat.not_lt_zero _)⟩ (fun i σ H2 _ ⟨_, _, e, _⟩ => by rw [e]; exact SqL.of hx) ?_ ?_⟩
        · rintro i y σ H2 hi ⟨v, rfl, rfl, hall⟩
          have hlt : i < w.length := by
            have := (List.getElem?_eq_some_iff.mp hi).1
            rw [wlen] at this; exact this
          rw [wget hlt] at hi
          cases hi
          refine ⟨_, rfl, _, rfl, _, rfl, ?_⟩
          rw [sm i]
          have nxt : ∀ (P : Prop), (Tote.isSmall (w.getD i 0) = true ∨ Tote.isDigit (w.getD i 0) = true) → ∀ j, j < i + 1 → Tote.isSmall (w.getD j 0) = true ∨ Tote.isDigit (w.getD j 0) = true := fun _ z j hj => by
            by_cases e : j = i
            · rw [e]; exact z
            · exact hall j (by omega)
          cases hs2 : Tote.isSmall (w.getD i 0) with
          | true =>
            refine iteF ?_
            exact iteF ⟨_, rfl, rfl, nxt True (.inl hs2)⟩
          | false =>
            refine iteT ⟨_, rfl, _, rfl, _, rfl, ?_⟩
            rw [dg i]
            cases hd2 : Tote.isDigit (w.getD i 0) with
            | true => exact iteF ⟨_, rfl, rfl, nxt True (.inr hd2)⟩
            | false =>
              rw [CM.name_bad hlt hs2 hd2] at q
              exact iteT q
        · rintro σ H2 ⟨v, rfl, rfl, hall⟩
          rw [wlen] at hall
          rw [CM.name_good hw (by intro z; exact h12 (decide_eq_true (by omega))) hs hall] at q
          exact q
theorem scNumOf : FnScope ["word", "value", "byte"] ["word"] (defScope sNumOf) := FnScope.of (by decide +kernel)
theorem ok_numof (T : Txt K mg a) : FnOk P w K mg base CX0 2 a.fNumOf a.dNumOf ["word"] spNumOf := by
  refine T.FNumOf.ok scNumOf (fun vs H Q E h => ?_) (fun cdv A outer s H vs Q E hr h => ?_)
  · obtain ⟨x, w, rfl, _⟩ := h
    rfl
  · obtain ⟨x, w, rfl, hx, hw, q⟩ := h
    have hpos : 0 < w.length := List.length_pos_iff.mpr hw
    refine ⟨_, pss_cons (ps_if (pt_cmpR op_gt (pe_callB call_len_seq (by rfl) T.z_len PySem.boot_len (pa_cons (pv 0) pa_nil)) (pe_gi rfl T.v_MOSTDIGITS) (nomark _)) (pss_one (ps_ret pe_non)) pss_nil)
      (pss_cons (ps_if (PW.pt (pw_and (pt_cmpR op_eq (pe_ix ix_list (pv 0) pe_int (fun _ _ => rfl)) (pe_gi rfl T.v_DIGIT0) (nomark _))
          (pw_and1 (pt_cmpR op_gt (pe_callB call_len_seq (by rfl) T.z_len PySem.boot_len (pa_cons (pv 0) pa_nil)) pe_int (nomark _))))) (pss_one (ps_ret pe_non)) pss_nil)
      (pss_cons (ps_set (i := 1) scNumOf.nd rfl (Or.inl rfl) pe_int)
      (pss_cons (ps_for PassesOwn.never rfl (pi_list (pv 0)) (pg_name (i := 2) scNumOf.nd rfl (Or.inl rfl))
        (pss_cons (ps_if (pt_not (pt_val (pe_call (ok_digit T) hr rfl T.gDigit T.FDigit.kp T.bDigit .nil pass0 (pa_cons (pv 2) pa_nil)))) (pss_one (ps_ret pe_non)) pss_nil)
        (pss_one (ps_set (i := 1) scNumOf.nd rfl (Or.inl rfl) (pe_op op_sub (pe_op op_add (pe_op op_mul (pv 1) pe_int) (pv 2)) (pe_gi rfl T.v_DIGIT0))))))
      (pss_one (ps_ret (pv 1)))))), ?_⟩
    try dsimp only [L2.cxOf]
    refine ⟨_, rfl, x, _, rfl, .inl (SqL.of hx), _, _, rfl, rfl, _, rfl, ?_⟩
    rw [wlen]
    have dg : ∀ i, (decide (48 ≤ ((w.getD i 0).toNat : Int)) && decide (((w.getD i 0).toNat : Int) ≤ 57)) = Tote.isDigit (w.getD i 0) := fun i => (CM.digit_iff _).symm
    refine ite2 (fun h5 => ?_) (fun h5 => ?_)
    · have h5' := of_decide_eq_true h5
      rw [show CM.numOf w = none from by unfold CM.numOf; rw [if_pos (by omega)]] at q
      exact q
    · have h5' : ¬ 5 < w.length := fun z => h5 (decide_eq_true (by omega))
      have en : CM.numOf w = Tote.numberOf w := by unfold CM.numOf; rw [if_neg h5']
      rw [en] at q
      refine ⟨_, rfl, x, _, _, _, rfl, rfl, SqL.of hx, atI_nat (j := 0) (wget hpos), rfl, _, rfl, ?_⟩
      -- behind the test of a 0 in front
      have rest : ¬ (w.getD 0 0 = 48 ∧ 1 < w.length) → (tSeq (tAsg (tC (.int 0)) (gName 1)) (tSeq (tFor (iList K (tVar 0)) (gName 2) (tSeq (tIfS (tNot (tB (tCall spDigit [] E0 (tCons (tVar 2) tNil)))) (tRet (tC .non)) tNext)
          (tAsg (tOp (rI0 fun i j => .int (i - j)) (tOp (rI0 fun i j => .int (i + j)) (tOp (rI CMul fun i j => .int (i * j)) (tVar 1) (tC (.int 10))) (tVar 2)) (tC (.int 48))) (gName 1)))) (tRet (tVar 1))))
          { nx := fun _ H' => Q .non H', rt := Q } [some (.ref x), none, none] H := by
        intro hz
        refine ⟨_, rfl, x, rfl, ⟨_, SqL.of hx⟩, for_list (K := K) (a := x) (xs := (CM.I8 w).map V.int) (fun i σ H2 => ∃ v : Option V, σ = [some (.ref x), some (.int (((w.take i).foldl CM.addDigit 0 : Nat) : Int)), v] ∧ H2 = H ∧ (∀ j, j < i → Tote.isDigit (w.getD j 0) = true) ∧ (w.take i).foldl CM.addDigit 0 < 10 ^ i ∧ i ≤ w.length)
          ⟨none, rfl, rfl, fun j hj => absurd hj (Nat.not_lt_zero _), by simp, Nat.zero_le _⟩ (fun i σ H2 _ ⟨_, _, e, _⟩ => by rw [e]; exact SqL.of hx) ?_ ?_⟩
        · rintro i y σ H2 hi ⟨v, rfl, rfl, hall, hb, _⟩
          have hlt : i < w.length := by
            have := (List.getElem?_eq_some_iff.mp hi).1
            rw [wlen] at this; exact this
          rw [wget hlt] at hi
          cases hi
          refine ⟨_, rfl, _, rfl, _, rfl, ?_⟩
          rw [dg i]
          cases hd2 : Tote.isDigit (w.getD i 0) with
          | false =>
            rw [CM.num_bad hlt hd2] at q
            exact iteT q
          | true =>
            refine iteF ?_
            have hdi : 48 ≤ (w.getD i 0).toNat ∧ (w.getD i 0).toNat ≤ 57 := by
              rw [← dg i] at hd2
              simp only [Bool.and_eq_true, decide_eq_true_eq] at hd2
              omega
            have hbig : (10 : Nat) ^ i ≤ 10 ^ 5 := Nat.pow_le_pow_right (by decide) (by omega)
            have h10 : (10 : Nat) ^ 5 = 100000 := by decide
            refine ⟨_, rfl, _, _, rfl, rfl, .inl ⟨?_, ?_⟩, _, rfl, _, _, rfl, rfl, _, _, rfl, rfl, some (.int ((w.getD i 0).toNat : Int)), ?_, rfl, ?_, ?_, hlt⟩
            · show -(2 ^ 64 : Int) < _; omega
            · show _ < (2 ^ 64 : Int); omega
            · have e1 : (((w.take (i + 1)).foldl CM.addDigit 0 : Nat) : Int) = ((w.take i).foldl CM.addDigit 0 : Nat) * 10 + ((w.getD i 0).toNat : Int) - 48 := by
                rw [CM.fold_take hlt]
                unfold CM.addDigit
                omega
              rw [e1]
              rfl
            · intro j hj
              by_cases e : j = i
              · rw [e]; exact hd2
              · exact hall j (by omega)
            · rw [CM.fold_take hlt, show ∀ n c, CM.addDigit n c = 10 * n + (c.toNat - 48) from fun _ _ => rfl, Nat.pow_succ]
              omega
        · rintro σ H2 ⟨v, rfl, rfl, hall, hb, _⟩
          rw [wlen] at hall
          rw [CM.num_good hw hz hall] at q
          refine ⟨_, rfl, ?_⟩
          rw [wlen, List.take_of_length_le (Nat.le_refl _)]
          exact q
      have e48 : (decide (V.int ((w.getD 0 0).toNat : Int) = V.int 48) = true) ↔ w.getD 0 0 = 48 := by
        rw [decide_eq_true_eq]
        constructor
        · intro z
          injection z with z
          exact (CM.u8_eq (k := 48) (by decide)).mp z
        · intro z
          rw [z]; rfl
      refine ite2 (fun h0 => ?_) (fun h0 => ?_)
      · refine ⟨_, rfl, x, _, rfl, .inl (SqL.of hx), _, _, rfl, rfl, _, rfl, ?_⟩
        rw [wlen]
        refine ite2 (fun h1 => ?_) (fun h1 => ?_)
        · have h1' := of_decide_eq_true h1
          rw [CM.num_zero hw (e48.mp h0) (by omega)] at q
          exact q
        · exact rest fun z => h1 (decide_eq_true (by omega))
      · exact iteF (rest fun z => h0 (e48.mpr z.1))
end
end RC
set_option maxRecDepth 100000
set_option maxHeartbeats 4000000
set_option linter.all false
set_option Elab.async false
namespace RC
open PySem L2
/-! ### choices, numbers, names -/
def choiceOf (e : Nat) (cs : List String) : List Tote.Word → Except Tote.Fault ((Nat × Nat) × List Tote.Word)
  | [] => .error ⟨3, e⟩
  | y :: r => match cs.findIdx? (fun s => decide (Tote.ascii s = y.w)) with
    | none => .error ⟨3, y.at_⟩
    | some n => .ok ((n, y.at_), r)
def nameOf (e : Nat) : List Tote.Word → Except Tote.Fault (Tote.Word × List Tote.Word)
  | [] => .error ⟨3, e⟩
  | y :: r => if Tote.isName y.w = false then .error ⟨4, y.at_⟩ else .ok (y, r)
theorem idx_some {α : Type} {p : α → Bool} : ∀ {cs : List α} {i : Nat} {s : α}, cs[i]? = some s → p s = true → (∀ j s', j < i → cs[j]? = some s' → p s' = false) → cs.findIdx? p = some i
  | [], i, s, h, _, _ => by simp at h
  | c :: cs, 0, s, h, hp, _ => by
    have : c = s := by simpa using h
    subst this
    simp [List.findIdx?_cons, hp]
  | c :: cs, i + 1, s, h, hp, hn => by
    have h0 : p c = false := hn 0 c (Nat.succ_pos _) rfl
    have ih := idx_some (cs := cs) (i := i) (s := s) (by simpa using h) hp fun j s' hj hs => hn (j + 1) s' (by omega) (by simpa using hs)
    simp [List.findIdx?_cons, h0, ih]
theorem idx_none {α : Type} {p : α → Bool} {cs : List α} (h : ∀ (j : Nat) s, cs[j]? = some s → p s = false) : cs.findIdx? p = none := by
  rw [List.findIdx?_eq_none_iff]
  intro x hx
  obtain ⟨j, hj, e⟩ := List.mem_iff_getElem.mp hx
  exact h j x (by rw [List.getElem?_eq_getElem hj, e])
/-- a word that the program writes -/
def GoodS (s : String) : Prop := (Str.ofString s).length ≤ 1000 ∧ ∀ c ∈ s.toList, c.toNat < 256
theorem GoodS.ints {s : String} (h : GoodS s) : ((Str.ofString s).cps.toList.map fun (c : Nat) => V.int c) = (CM.I8 (Tote.ascii s)).map V.int := by
  rw [CM.ascii_codes h.2]
  have e : (Str.ofString s).cps.toList = s.toList.map Char.toNat := PyProof.Rows.signs_ofString s
  rw [e]
  unfold CM.codes
  simp
abbrev vS (s : String) : V := .str (Str.ofString s)
inductive SpChoice (K : PySem.W.Frag) (C D : Addr) (vs : List V) (H : Hp) (Q : VK) (E : XK) : Prop
  | mk (p c : Addr) (e : Nat) (l : List Tote.Word) (pl : Int) (cs : List String) (h0 : vs = [.ref p, .ref c]) (h1 : Ln C H p e l pl) (h2 : SqT K H c (cs.map vS)) (h3 : (∀ s ∈ cs, GoodS s)) (h4 : Out E D (choiceOf e cs l) fun y => ∀ H' : Hp, Ln C H' p e y.2 y.1.2 → Fr1 p H H' → Q (.int y.1.1) H') : SpChoice K C D vs H Q E
abbrev spChoice (K : PySem.W.Frag) (C D : Addr) : Sp := fun vs H Q E => SpChoice K C D vs H Q E
inductive SpFixed (C D : Addr) (vs : List V) (H : Hp) (Q : VK) (E : XK) : Prop
  | mk (p : Addr) (e : Nat) (l : List Tote.Word) (pl : Int) (s : String) (h0 : vs = [.ref p, vS s]) (h1 : Ln C H p e l pl) (h2 : GoodS s) (h3 : Out E D (Tote.must e s l) fun r => ∀ (H' : Hp) (y : Tote.Word), l = y :: r → Ln C H' p e r y.at_ → Fr1 p H H' → Q .non H') : SpFixed C D vs H Q E
abbrev spFixed (C D : Addr) : Sp := fun vs H Q E => SpFixed C D vs H Q E
inductive SpTName (C D : Addr) (vs : List V) (H : Hp) (Q : VK) (E : XK) : Prop
  | mk (p : Addr) (e : Nat) (l : List Tote.Word) (pl : Int) (h0 : vs = [.ref p]) (h1 : Ln C H p e l pl) (h2 : Out E D (nameOf e l) fun y => ∀ (H' : Hp) (x : Addr), Ln C H' p e y.2 y.1.at_ → Fr1 p H H' → WordAt H' x y.1.w → Q (.ref x) H') : SpTName C D vs H Q E
abbrev spTName (C D : Addr) : Sp := fun vs H Q E => SpTName C D vs H Q E
inductive SpNum (C D : Addr) (vs : List V) (H : Hp) (Q : VK) (E : XK) : Prop
  | mk (p : Addr) (e : Nat) (l : List Tote.Word) (pl : Int) (lo hi : Nat) (h0 : vs = [.ref p, .int lo, .int hi]) (h1 : hi < 100000) (h2 : Ln C H p e l pl) (h3 : Out E D (Tote.number e lo hi l) fun y => ∀ H' : Hp, Ln C H' p e y.2 y.1.2 → Fr1 p H H' → Q (.int y.1.1) H') : SpNum C D vs H Q E
abbrev spNum (C D : Addr) : Sp := fun vs H Q E => SpNum C D vs H Q E
inductive SpRule (C D : Addr) (vs : List V) (H : Hp) (Q : VK) (E : XK) : Prop
  | mk (p : Addr) (e : Nat) (l : List Tote.Word) (pl : Int) (s : String) (lo hi : Nat) (h0 : vs = [.ref p, vS s, .int lo, .int hi]) (h1 : hi < 100000) (h2 : Ln C H p e l pl) (h3 : GoodS s) (h4 : Out E D (Tote.must e s l >>= fun m => Tote.number e lo hi m) fun y => ∀ H' : Hp, Ln C H' p e y.2 y.1.2 → Fr1 p H H' → Q (.int y.1.1) H') : SpRule C D vs H Q E
abbrev spRule (C D : Addr) : Sp := fun vs H Q E => SpRule C D vs H Q E
inductive SpFin (C D : Addr) (vs : List V) (H : Hp) (Q : VK) (E : XK) : Prop
  | mk (p : Addr) (e : Nat) (l : List Tote.Word) (pl : Int) (h0 : vs = [.ref p]) (h1 : Ln C H p e l pl) (h2 : Out E D (Tote.closed l) fun _ => Q .non H) : SpFin C D vs H Q E
abbrev spFin (C D : Addr) : Sp := fun vs H Q E => SpFin C D vs H Q E
section
variable {P : Program} {w : World} {K : PySem.W.Frag} {mg : Str → Option Value} {base : Heap} {a : Ad}
theorem ln_no {lw : Addr} {e i p : Int} {m : Str} (h1 : ¬ ("words" : Str) = m := by decide +kernel) (h2 : ¬ ("end" : Str) = m := by decide +kernel) (h3 : ¬ ("taken" : Str) = m := by decide +kernel) (h4 : ¬ ("place" : Str) = m := by decide +kernel) :
    (lf lw e i p).lookup m = none := lf_no _ _ _ _ h1 h2 h3 h4
theorem scChoice : FnScope ["self", "choices", "word", "number", "choice"] ["self", "choices"] (defScope sChoice) := FnScope.of (by decide +kernel)
theorem ok_choice (T : Txt K mg a) : FnOk P w K mg base (CXF P w) 4 a.fChoice a.dChoice ["self", "choices"] (spChoice K a.CL a.CF) := by
  refine Fun.okF T.FChoice scChoice (fun vs H Q E h => ?_) (fun cdv A outer s H vs Q E hr h => ?_)
  · obtain ⟨p, c, e, l, pl, cs, rfl, _⟩ := h
    rfl
  · obtain ⟨p, c, e, l, pl, cs, rfl, L, hc, hg, q⟩ := h
    obtain ⟨dx, lw, i0, hp⟩ := L.ins
    refine ⟨_, pss_cons (ps_set (i := 2) scChoice.nd rfl (Or.inl rfl) (pe_meth0 (pv 0) T.cCL T.mNext (ok_next T) hr T.bNext .nil passF))
      (pss_cons (ps_for PassesOwn.leaving rfl (pi_enumT rfl T.z_enumerate (pa_cons (pv 1) pa_nil)) (pg_tup rfl (pgs_cons (pg_name (i := 3) scChoice.nd rfl (Or.inl rfl)) (pgs_cons (pg_name (i := 4) scChoice.nd rfl (Or.inl rfl)) pgs_nil)))
        (pss_one (ps_if (pt_cmpR (op_eqI hr.units) (pv 2) (pe_call (ok_bytes T) (hr.mono (by decide)) rfl T.gBytes T.FBytes.kp T.bBytes .nil pass0 (pa_cons (pv 4) pa_nil)) (nomark _)) (pss_one (ps_ret (pv 3))) pss_nil)))
      (pss_one (ps_flt T.xF (ok_FI T) (hr.mono (by decide)) rfl T.gCF T.bFI (pa_cons (pe_gi rfl T.v_BADWORD) (pa_cons (pe_fld (pv 0) rfl) pa_nil))))), ?_⟩
    try dsimp only [L2.cxOf]
    refine ⟨_, rfl, p, dx, _, rfl, hp, ln_no, p, e, l, pl, rfl, L, ?_⟩
    cases l with
    | nil => exact q
    | cons y r =>
      intro H1 x L1 f1 hx
      refine ⟨_, rfl, c, _, rfl, f1.seqT hp hc, for_enumT (K := K) (a := c) (xs := cs.map vS) (fun i σ H2 => ∃ v3 v4 : Option V, σ = [some (.ref p), some (.ref c), some (.ref x), v3, v4] ∧ Ln a.CL H2 p e r y.at_ ∧ Fr1 p H H2 ∧ WordAt H2 x y.w ∧
          ∀ (j : Nat) s', j < i → cs[j]? = some s' → decide (Tote.ascii s' = y.w) = false) ⟨none, none, rfl, L1, f1, hx, fun j s' hj => absurd hj (Nat.not_lt_zero _)⟩ (fun i σ H2 _ ⟨_, _, _, _, f2, _⟩ => f2.seqT hp hc) ?_ ?_⟩
      · rintro i z σ H2 t hi ⟨v3, v4, rfl, L2', f2, hx2, hno⟩ ht
        obtain ⟨s', hs', rfl⟩ : ∃ s', cs[i]? = some s' ∧ vS s' = z := by
          rw [List.getElem?_map] at hi
          exact Option.map_eq_some_iff.mp hi
        have hgs := hg s' (List.mem_of_getElem? hs')
        have sm0 : Same H2 (upd H2 t (.tup [.int (i : Nat), vS s'])) := same_new ht
        refine ⟨t, _, rfl, SqT.of upd_same, rfl, _, _, rfl, _, _, rfl, rfl, ?_⟩
        refine ⟨_, rfl, _, rfl, Str.ofString s', rfl, hgs.1, fun H3 b hb sm hbv => ?_⟩
        rw [hgs.ints] at hbv
        have hx3 := sm _ _ (sm0 _ _ hx2)
        refine ⟨x, b, CM.I8 y.w, CM.I8 (Tote.ascii s'), rfl, rfl, SqL.of hx3, SqL.of hbv, _, rfl, ?_⟩
        have L3 := (L2'.same sm0).same sm
        have f3 : Fr1 p H H3 := f2.trans (Fr1.of_same (sm0.trans sm))
        refine ite2 (fun h => ?_) (fun h => ?_)
        · have he : Tote.ascii s' = y.w := (CM.I8_inj (of_decide_eq_true h)).symm
          refine ⟨_, rfl, ?_⟩
          have ei : cs.findIdx? (fun s => decide (Tote.ascii s = y.w)) = some i := idx_some hs' (decide_eq_true he) hno
          have q' : Out E a.CF (match cs.findIdx? (fun s => decide (Tote.ascii s = y.w)) with
            | none => Except.error (⟨3, y.at_⟩ : Tote.Fault)
            | some n => .ok ((n, y.at_), r)) _ := q
          rw [ei] at q'
          exact q' H3 L3 f3
        · refine ⟨_, _, rfl, L3, f3, hx3, fun j s2 hj hs2 => ?_⟩
          by_cases ej : j = i
          · subst ej
            rw [hs'] at hs2
            cases hs2
            exact decide_eq_false fun z => h (decide_eq_true (by rw [z]))
          · exact hno j s2 (by omega) hs2
      · rintro σ H2 ⟨v3, v4, rfl, L2', f2, hx2, hno⟩
        obtain ⟨dx2, lw2, i2, hp2⟩ := L2'.ins
        have en : cs.findIdx? (fun s => decide (Tote.ascii s = y.w)) = none := idx_none fun j s' hs' => hno j s' (by rw [List.length_map]; exact (List.getElem?_eq_some_iff.mp hs').1) hs'
        have q' : Out E a.CF (match cs.findIdx? (fun s => decide (Tote.ascii s = y.w)) with
          | none => Except.error (⟨3, y.at_⟩ : Tote.Fault)
          | some n => .ok ((n, y.at_), r)) _ := q
        rw [en] at q'
        exact ⟨_, rfl, p, a.CL, dx2, _, _, rfl, hp2, T.cCL, T.nCL_place, lf_place _ _ _ _, flt_in q'⟩
theorem must_choice (e : Nat) (s : String) (l : List Tote.Word) : Tote.must e s l = match choiceOf e [s] l with
    | .error f => .error f
    | .ok y => .ok y.2 := by
  cases l with
  | nil => rfl
  | cons y r =>
    show (if y.w = Tote.ascii s then Except.ok r else .error ⟨3, y.at_⟩) = match (match [s].findIdx? (fun s => decide (Tote.ascii s = y.w)) with
      | none => Except.error (⟨3, y.at_⟩ : Tote.Fault)
      | some n => .ok ((n, y.at_), r)) with
      | .error f => .error f
      | .ok y => .ok y.2
    by_cases h : Tote.ascii s = y.w
    · rw [if_pos h.symm]
      simp [List.findIdx?_cons, h]
    · rw [if_neg fun z => h z.symm]
      simp [List.findIdx?_cons, h]
theorem scFixed : FnScope ["self", "wanted"] ["self", "wanted"] (defScope sFixed) := FnScope.of (by decide +kernel)
theorem ok_fixed (T : Txt K mg a) : FnOk P w K mg base (CXF P w) 5 a.fFixed a.dFixed ["self", "wanted"] (spFixed a.CL a.CF) := by
  refine Fun.okF T.FFixed scFixed (fun vs H Q E h => ?_) (fun cdv A outer s H vs Q E hr h => ?_)
  · obtain ⟨p, e, l, pl, s, rfl, _⟩ := h
    rfl
  · obtain ⟨p, e, l, pl, s, rfl, L, hg, q⟩ := h
    obtain ⟨dx, lw, i0, hp⟩ := L.ins
    refine ⟨_, pss_one (ps_expr (pe_meth (pv 0) T.cCL T.mChoice (ok_choice T) hr T.bChoice .nil passF (pa_cons (pe_tup (pa_cons (pv 1) pa_nil)) pa_nil))), ?_⟩
    try dsimp only [L2.cxOf]
    refine ⟨_, rfl, p, dx, _, rfl, hp, ln_no, _, rfl, (by show 1 ≤ sizeLine; decide), fun t ht => ?_⟩
    have sm : Same H (upd H t (.tup [vS s])) := same_new ht
    refine ⟨p, t, e, l, pl, [s], rfl, L.same sm, SqT.of upd_same, fun z hz => by rw [List.mem_singleton.mp hz]; exact hg, ?_⟩
    rw [must_choice] at q
    cases l with
    | nil => exact q
    | cons y r =>
      cases hq : choiceOf e [s] (y :: r) with
      | error f => rw [hq] at q; exact q
      | ok z =>
        rw [hq] at q
        have hz : z.2 = r ∧ z.1.2 = y.at_ := by
          have hq' : (match [s].findIdx? (fun s => decide (Tote.ascii s = y.w)) with
            | none => Except.error (⟨3, y.at_⟩ : Tote.Fault)
            | some n => .ok ((n, y.at_), r)) = .ok z := hq
          cases hf : [s].findIdx? (fun s => decide (Tote.ascii s = y.w)) with
          | none => rw [hf] at hq'; cases hq'
          | some n => rw [hf] at hq'; cases hq'; exact ⟨rfl, rfl⟩
        intro H' L' f'
        rw [hz.1, hz.2] at L'
        have q' : ∀ (H' : Hp) (y' : Tote.Word), y :: r = y' :: z.2 → Ln a.CL H' p e z.2 y'.at_ → Fr1 p H H' → Q .non H' := q
        rw [hz.1] at q'
        exact q' H' y rfl L' ((Fr1.of_same sm).trans f')
theorem scTName : FnScope ["self", "word"] ["self"] (defScope sTName) := FnScope.of (by decide +kernel)
theorem ok_tname (T : Txt K mg a) : FnOk P w K mg base (CXF P w) 4 a.fTName a.dTName ["self"] (spTName a.CL a.CF) := by
  refine Fun.okF T.FTName scTName (fun vs H Q E h => ?_) (fun cdv A outer s H vs Q E hr h => ?_)
  · obtain ⟨p, e, l, pl, rfl, _⟩ := h
    rfl
  · obtain ⟨p, e, l, pl, rfl, L, q⟩ := h
    obtain ⟨dx, lw, i0, hp⟩ := L.ins
    refine ⟨_, pss_cons (ps_set (i := 1) scTName.nd rfl (Or.inl rfl) (pe_meth0 (pv 0) T.cCL T.mNext (ok_next T) hr T.bNext .nil passF))
      (pss_cons (ps_if (pt_not (pt_val (pe_call (ok_isname T) (hr.mono (by decide)) rfl T.gIsName T.FIsName.kp T.bIsName .nil pass0 (pa_cons (pv 1) pa_nil))))
        (pss_one (ps_flt T.xF (ok_FI T) (hr.mono (by decide)) rfl T.gCF T.bFI (pa_cons (pe_gi rfl T.v_BADVALUE) (pa_cons (pe_fld (pv 0) rfl) pa_nil)))) pss_nil)
      (pss_one (ps_ret (pv 1)))), ?_⟩
    try dsimp only [L2.cxOf]
    refine ⟨_, rfl, p, dx, _, rfl, hp, ln_no, p, e, l, pl, rfl, L, ?_⟩
    cases l with
    | nil => exact q
    | cons y r =>
      intro H1 x L1 f1 hx
      obtain ⟨dx1, lw1, i1, hp1⟩ := L1.ins
      refine ⟨_, rfl, x, y.w, rfl, hx, L.words y (by simp), _, rfl, ?_⟩
      have q' : Out E a.CF (if Tote.isName y.w = false then Except.error (⟨4, y.at_⟩ : Tote.Fault) else .ok (y, r)) _ := q
      cases hn : Tote.isName y.w with
      | false =>
        rw [hn, if_pos rfl] at q'
        exact iteT ⟨_, rfl, p, a.CL, dx1, _, _, rfl, hp1, T.cCL, T.nCL_place, lf_place _ _ _ _, flt_in q'⟩
      | true =>
        rw [hn, if_neg (by decide)] at q'
        exact iteF ⟨_, rfl, q' H1 x L1 f1 hx⟩
theorem scNum : FnScope ["self", "low", "high", "value"] ["self", "low", "high"] (defScope sNum) := FnScope.of (by decide +kernel)
theorem ok_num (T : Txt K mg a) : FnOk P w K mg base (CXF P w) 4 a.fNum a.dNum ["self", "low", "high"] (spNum a.CL a.CF) := by
  refine Fun.okF T.FNum scNum (fun vs H Q E h => ?_) (fun cdv A outer s H vs Q E hr h => ?_)
  · obtain ⟨p, e, l, pl, lo, hi, rfl, _⟩ := h
    rfl
  · obtain ⟨p, e, l, pl, lo, hi, rfl, hb, L, q⟩ := h
    obtain ⟨dx, lw, i0, hp⟩ := L.ins
    refine ⟨_, pss_cons (ps_set (i := 3) scNum.nd rfl (Or.inl rfl) (pe_call (ok_numof T) (hr.mono (by decide)) rfl T.gNumOf T.FNumOf.kp T.bNumOf .nil pass0 (pa_cons (pe_meth0 (pv 0) T.cCL T.mNext (ok_next T) hr T.bNext .nil passF) pa_nil)))
      (pss_cons (ps_if (PW.pt (pw_or (pt_cmp (pc_isN (pv 3))) (pw_or (pt_cmpR op_lt (pv 3) (pv 1) (nomark _)) (pw_or1 (pt_cmpR op_gt (pv 3) (pv 2) (nomark _))))))
        (pss_one (ps_flt T.xF (ok_FI T) (hr.mono (by decide)) rfl T.gCF T.bFI (pa_cons (pe_gi rfl T.v_BADVALUE) (pa_cons (pe_fld (pv 0) rfl) pa_nil)))) pss_nil)
      (pss_one (ps_ret (pv 3)))), ?_⟩
    try dsimp only [L2.cxOf]
    refine ⟨_, rfl, p, dx, _, rfl, hp, ln_no, p, e, l, pl, rfl, L, ?_⟩
    cases l with
    | nil => exact q
    | cons y r =>
      intro H1 x L1 f1 hx
      obtain ⟨dx1, lw1, i1, hp1⟩ := L1.ins
      refine ⟨x, y.w, rfl, hx, L.words y (by simp), ?_⟩
      rw [CM.number_cons hb] at q
      refine ⟨_, rfl, _, rfl, ?_⟩
      cases hn : CM.numOf y.w with
      | none =>
        rw [hn] at q
        refine iteT (iteT ?_)
        exact ⟨_, rfl, p, a.CL, dx1, _, _, rfl, hp1, T.cCL, T.nCL_place, lf_place _ _ _ _, flt_in q⟩
      | some n =>
        rw [hn] at q
        have e0 : decide (vNum (some n) = V.non) = false := decide_eq_false (by intro z; cases z)
        rw [e0]
        refine iteF ?_
        refine ⟨_, rfl, _, rfl, _, _, rfl, rfl, _, rfl, ?_⟩
        have q' : Out E a.CF (if n < lo ∨ hi < n then Except.error (⟨4, y.at_⟩ : Tote.Fault) else .ok ((n, y.at_), r)) _ := q
        refine ite2 (fun h1 => ?_) (fun h1 => ?_)
        · rw [if_pos (.inl (by have := of_decide_eq_true h1; omega))] at q'
          exact iteT ⟨_, rfl, p, a.CL, dx1, _, _, rfl, hp1, T.cCL, T.nCL_place, lf_place _ _ _ _, flt_in q'⟩
        · refine ⟨_, rfl, _, rfl, _, _, rfl, rfl, _, rfl, ?_⟩
          refine ite2 (fun h2 => ?_) (fun h2 => ?_)
          · rw [if_pos (.inr (by have := of_decide_eq_true h2; omega))] at q'
            exact ⟨_, rfl, p, a.CL, dx1, _, _, rfl, hp1, T.cCL, T.nCL_place, lf_place _ _ _ _, flt_in q'⟩
          · rw [if_neg (by rintro (z | z); exact h1 (decide_eq_true (by omega)); exact h2 (decide_eq_true (by omega)))] at q'
            exact ⟨_, rfl, q' H1 L1 f1⟩
theorem scRule : FnScope ["self", "wanted", "low", "high"] ["self", "wanted", "low", "high"] (defScope sRule) := FnScope.of (by decide +kernel)
theorem ok_rule (T : Txt K mg a) : FnOk P w K mg base (CXF P w) 6 a.fRule a.dRule ["self", "wanted", "low", "high"] (spRule a.CL a.CF) := by
  refine Fun.okF T.FRule scRule (fun vs H Q E h => ?_) (fun cdv A outer s H vs Q E hr h => ?_)
  · obtain ⟨p, e, l, pl, s, lo, hi, rfl, _⟩ := h
    rfl
  · obtain ⟨p, e, l, pl, s, lo, hi, rfl, hb, L, hg, q⟩ := h
    obtain ⟨dx, lw, i0, hp⟩ := L.ins
    refine ⟨_, pss_cons (ps_expr (pe_meth (pv 0) T.cCL T.mFixed (ok_fixed T) hr T.bFixed .nil passF (pa_cons (pv 1) pa_nil)))
      (pss_one (ps_ret (pe_meth (pv 0) T.cCL T.mNum (ok_num T) (hr.mono (by decide)) T.bNum .nil passF (pa_cons (pv 2) (pa_cons (pv 3) pa_nil))))), ?_⟩
    try dsimp only [L2.cxOf]
    refine ⟨_, rfl, p, dx, _, rfl, hp, ln_no, _, rfl, p, e, l, pl, s, rfl, L, hg, (Out.bind q).mono fun r _ qr => ?_⟩
    intro H1 y _ L1 f1
    obtain ⟨dx1, lw1, i1, hp1⟩ := L1.ins
    exact ⟨_, rfl, p, dx1, _, rfl, hp1, ln_no, _, rfl, _, rfl, p, e, r, _, lo, hi, rfl, hb, L1, qr.mono fun z _ qz H' L' f' => qz H' L' (f1.trans f')⟩
theorem scFin : FnScope ["self"] ["self"] (defScope sFin) := FnScope.of (by decide +kernel)
theorem ok_fin (T : Txt K mg a) : FnOk P w K mg base (CXF P w) 4 a.fFin a.dFin ["self"] (spFin a.CL a.CF) := by
  refine Fun.okF T.FFin scFin (fun vs H Q E h => ?_) (fun cdv A outer s H vs Q E hr h => ?_)
  · obtain ⟨p, e, l, pl, rfl, _⟩ := h
    rfl
  · obtain ⟨p, e, l, pl, rfl, L, q⟩ := h
    obtain ⟨dx, lw, i0, hp⟩ := L.ins
    refine ⟨_, pss_one (ps_if (pt_val (pe_meth0 (pv 0) T.cCL T.mAny (ok_any T) (hr.mono (by decide)) T.bAny .nil pass0))
      (pss_cons (ps_expr (pe_meth0 (pv 0) T.cCL T.mNext (ok_next T) hr T.bNext .nil passF))
      (pss_one (ps_flt T.xF (ok_FI T) (hr.mono (by decide)) rfl T.gCF T.bFI (pa_cons (pe_gi rfl T.v_BADWORD) (pa_cons (pe_fld (pv 0) rfl) pa_nil))))) pss_nil), ?_⟩
    try dsimp only [L2.cxOf]
    refine ⟨_, rfl, p, dx, _, rfl, hp, ln_no, p, e, l, pl, rfl, L, _, rfl, ?_⟩
    cases l with
    | nil => exact iteF q
    | cons y r =>
      refine iteT ⟨_, rfl, p, dx, _, rfl, hp, ln_no, p, e, y :: r, pl, rfl, L, ?_⟩
      intro H1 x L1 f1 hx
      obtain ⟨dx1, lw1, i1, hp1⟩ := L1.ins
      exact ⟨_, rfl, p, a.CL, dx1, _, _, rfl, hp1, T.cCL, T.nCL_place, lf_place _ _ _ _, flt_in q⟩
end
end RC
set_option maxRecDepth 100000
set_option maxHeartbeats 4000000
set_option linter.all false
set_option Elab.async false
namespace RC
open PySem L2
/-! ### lines of a text -/
/-- the text as it is handed in -/
def TxAt (K : PySem.W.Frag) (H : Hp) (x : Addr) (t : Tote.Bytes) : Prop := SqL K H x ((CM.I8 t).map V.int) ∧ t.length ≤ 66000
theorem TxAt.same {K : PySem.W.Frag} {H H' : Hp} {x : Addr} {t : Tote.Bytes} (h : TxAt K H x t) (s : Same H H') : TxAt K H' x t := ⟨s.seq h.1, h.2⟩
def endOf (t : Tote.Bytes) (s : Nat) : Except Tote.Fault Nat := match Tote.upTo (t.drop s) with
  | none => .error ⟨1, t.length⟩
  | some (l, _) => .ok (s + l.length)
def checkOf (s : Nat) (l : Tote.Bytes) : Except Tote.Fault Unit := match Tote.badByte true 0 l with
  | some i => .error ⟨2, s + i⟩
  | none => .ok ()
/-- l stands in t from s on, its end there too -/
structure Seg (t : Tote.Bytes) (s : Nat) (l : Tote.Bytes) : Prop where
  eq : l = (t.drop s).take l.length
  le : s + l.length < t.length
theorem Seg.get {t : Tote.Bytes} {s : Nat} {l : Tote.Bytes} (h : Seg t s l) {i : Nat} (hi : i < l.length) : t.getD (s + i) 0 = l.getD i 0 := by
  have e : l.getD i 0 = ((t.drop s).take l.length).getD i 0 := congrArg (fun z => z.getD i 0) h.eq
  rw [e]
  simp [List.getD, List.getElem?_take, hi, List.getElem?_drop]
theorem tget {t : Tote.Bytes} {z : Int} {j : Nat} (e : z = (j : Int)) (h : j < t.length) : atI ((CM.I8 t).map V.int) z = some (V.int ((t.getD j 0).toNat : Int)) := at_of e (wget h)
inductive SpLEnd (K : PySem.W.Frag) (D : Addr) (vs : List V) (H : Hp) (Q : VK) (E : XK) : Prop
  | mk (x : Addr) (t : Tote.Bytes) (s : Nat) (h0 : vs = [.ref x, .int s]) (h1 : TxAt K H x t) (h2 : s ≤ 100000) (h3 : Out E D (endOf t s) fun e => Q (.int (e : Nat)) H) : SpLEnd K D vs H Q E
abbrev spLEnd (K : PySem.W.Frag) (D : Addr) : Sp := fun vs H Q E => SpLEnd K D vs H Q E
inductive SpBad (K : PySem.W.Frag) (vs : List V) (H : Hp) (Q : VK) (E : XK) : Prop
  | mk (x : Addr) (t : Tote.Bytes) (s j : Nat) (l : Tote.Bytes) (h0 : vs = [.ref x, .int (s + j), .int s, .int (s + l.length)]) (h1 : TxAt K H x t) (h2 : Seg t s l) (h3 : j < l.length) (h4 : Q (.bl (CM.isBad l j)) H) : SpBad K vs H Q E
abbrev spBad (K : PySem.W.Frag) : Sp := fun vs H Q E => SpBad K vs H Q E
inductive SpCheck (K : PySem.W.Frag) (D : Addr) (vs : List V) (H : Hp) (Q : VK) (E : XK) : Prop
  | mk (x : Addr) (t : Tote.Bytes) (s : Nat) (l : Tote.Bytes) (h0 : vs = [.ref x, .int s, .int (s + l.length)]) (h1 : TxAt K H x t) (h2 : Seg t s l) (h3 : Out E D (checkOf s l) fun _ => Q .non H) : SpCheck K D vs H Q E
abbrev spCheck (K : PySem.W.Frag) (D : Addr) : Sp := fun vs H Q E => SpCheck K D vs H Q E
inductive SpSplit (K : PySem.W.Frag) (vs : List V) (H : Hp) (Q : VK) (E : XK) : Prop
  | mk (x : Addr) (t : Tote.Bytes) (s : Nat) (l : Tote.Bytes) (h0 : vs = [.ref x, .int s, .int (s + l.length)]) (h1 : TxAt K H x t) (h2 : Seg t s l) (h3 : l ≠ []) (h4 : CM.Clean l l.length) (h5 : ∀ (H' : Hp) (lw : Addr), WordsAt H' lw (Tote.wordsFrom s [] l) → Same H H' → Q (.ref lw) H') : SpSplit K vs H Q E
abbrev spSplit (K : PySem.W.Frag) : Sp := fun vs H Q E => SpSplit K vs H Q E
inductive SpLFrom (K : PySem.W.Frag) (C D : Addr) (vs : List V) (H : Hp) (Q : VK) (E : XK) : Prop
  | mk (x : Addr) (t : Tote.Bytes) (s : Nat) (h0 : vs = [.ref x, .int s]) (h1 : TxAt K H x t) (h2 : s ≤ 100000) (h3 : Out E D (CM.lineFrom t s) fun L => ∀ (H' : Hp) (p : Addr), Ln C H' p L.end_ L.words L.end_ → Same H H' → H p = none → Q (.ref p) H') : SpLFrom K C D vs H Q E
abbrev spLFrom (K : PySem.W.Frag) (C D : Addr) : Sp := fun vs H Q E => SpLFrom K C D vs H Q E
theorem upTo_at {t : Tote.Bytes} {s i : Nat} (h : s + i < t.length) (hn : ∀ j, j < i → t.getD (s + j) 0 ≠ 10) (h10 : t.getD (s + i) 0 = 10) : ∃ r, Tote.upTo (t.drop s) = some ((t.drop s).take i, r) ∧ ((t.drop s).take i).length = i := by
  have hl : ((t.drop s).take i).length = i := by rw [List.length_take, List.length_drop]; omega
  refine ⟨t.drop (s + i + 1), ?_, hl⟩
  have e : t.drop s = (t.drop s).take i ++ 10 :: t.drop (s + i + 1) := by
    have h1 : (t.drop s).drop i = 10 :: t.drop (s + i + 1) := by
      rw [List.drop_drop, CM.drop_get h, h10]
    rw [← h1, List.take_append_drop]
  have hne : ∀ c ∈ (t.drop s).take i, c ≠ 10 := by
    intro c hc
    obtain ⟨j, hj, e⟩ := List.mem_iff_getElem.mp hc
    rw [hl] at hj
    have := hn j hj
    rw [← e, List.getElem_take, List.getElem_drop]
    rw [List.getD_eq_getElem?_getD, List.getElem?_eq_getElem (by omega)] at this
    exact this
  have := CM.upTo_some (r := t.drop (s + i + 1)) hne
  rw [← e] at this
  exact this
theorem upTo_no {t : Tote.Bytes} {s : Nat} (hn : ∀ j, s + j < t.length → t.getD (s + j) 0 ≠ 10) : Tote.upTo (t.drop s) = none := by
  apply CM.upTo_none
  intro c hc
  obtain ⟨j, hj, e⟩ := List.mem_iff_getElem.mp hc
  rw [List.length_drop] at hj
  have := hn j (by omega)
  rw [← e, List.getElem_drop]
  rw [List.getD_eq_getElem?_getD, List.getElem?_eq_getElem (by omega)] at this
  exact this
theorem words_len : ∀ (p : Nat) (w l : Tote.Bytes), (Tote.wordsFrom p w l).length ≤ l.length + 1
  | p, w, [] => by
    unfold Tote.wordsFrom
    split <;> simp
  | p, w, c :: r => by
    unfold Tote.wordsFrom
    split
    · have := words_len (p + 1) [] r
      simp only [List.length_cons]
      omega
    · have := words_len (p + 1) (w ++ [c]) r
      simp only [List.length_cons]
      omega
theorem e_int (c : UInt8) (k : Nat) (hk : k < 256) : (decide (V.int (c.toNat : Int) = V.int (k : Int)) = true) ↔ c = UInt8.ofNat k := by
  rw [decide_eq_true_eq]
  constructor
  · intro z
    injection z with z
    exact (CM.u8_eq hk).mp z
  · intro z
    rw [(CM.u8_eq hk).mpr z]
section
variable {P : Program} {w : World} {K : PySem.W.Frag} {mg : Str → Option Value} {base : Heap} {a : Ad}
theorem scLEnd : FnScope ["text", "start", "place"] ["text", "start"] (defScope sLEnd) := FnScope.of (by decide +kernel)
theorem ok_lend (T : Txt K mg a) : FnOk P w K mg base (CXF P w) 3 a.fLEnd a.dLEnd ["text", "start"] (spLEnd K a.CF) := by
  refine Fun.okF T.FLEnd scLEnd (fun vs H Q E h => ?_) (fun cdv A outer s H vs Q E hr h => ?_)
  · obtain ⟨x, t, s, rfl, _⟩ := h
    rfl
  · obtain ⟨x, t, s, rfl, hx, hs, q⟩ := h
    refine ⟨_, pss_cons (ps_for PassesOwn.leaving rfl (pi_range2 rfl T.z_range (pa_cons (pv 1) (pa_cons (pe_callB call_len_seq (by rfl) T.z_len PySem.boot_len (pa_cons (pv 0) pa_nil)) pa_nil))) (pg_name (i := 2) scLEnd.nd rfl (Or.inl rfl))
        (pss_one (ps_if (pt_cmpR op_eq (pe_ix ix_list (pv 0) (pv 2) (fun _ _ => rfl)) (pe_gi rfl T.v_NL) (nomark _)) (pss_one (ps_ret (pv 2))) pss_nil)))
      (pss_one (ps_flt T.xF (ok_FI T) (hr.mono (by decide)) rfl T.gCF T.bFI (pa_cons (pe_gi rfl T.v_NOTENDED) (pa_cons (pe_callB call_len_seq (by rfl) T.z_len PySem.boot_len (pa_cons (pv 0) pa_nil)) pa_nil)))), ?_⟩
    try dsimp only [L2.cxOf]
    refine ⟨_, rfl, _, rfl, x, _, rfl, .inl hx.1, _, _, rfl, ?_, for_range (fun i σ H2 => ∃ v : Option V, σ = [some (.ref x), some (.int s), v] ∧ H2 = H ∧ ∀ j, j < i → t.getD (s + j) 0 ≠ 10) ⟨none, rfl, rfl, fun j hj => absurd hj (Nat.not_lt_zero _)⟩ ?_ ?_⟩
    · rw [wlen]
      have := hx.2
      omega
    · rintro i σ H2 hi ⟨v, rfl, rfl, hno⟩
      rw [wlen] at hi
      have hlt : s + i < t.length := by omega
      refine ⟨_, rfl, _, rfl, x, _, _, _, rfl, rfl, hx.1, tget (j := s + i) (by omega) hlt, rfl, _, rfl, ?_⟩
      have e10 := e_int (t.getD (s + i) 0) 10 (by decide)
      refine ite2 (fun h => ?_) (fun h => ?_)
      · obtain ⟨r, e1, e2⟩ := upTo_at hlt hno (e10.mp h)
        have q' : Out E a.CF (match Tote.upTo (t.drop s) with
          | none => Except.error (⟨1, t.length⟩ : Tote.Fault)
          | some (l, _) => .ok (s + l.length)) _ := q
        rw [e1] at q'
        refine ⟨_, rfl, ?_⟩
        have q2 : Q (.int ((s + ((t.drop s).take i).length : Nat) : Int)) H2 := q'
        rw [e2] at q2
        have e3 : ((s + i : Nat) : Int) = (s : Int) + (i : Int) := by omega
        rw [e3] at q2
        exact q2
      · refine ⟨_, rfl, rfl, fun j hj => ?_⟩
        by_cases ej : j = i
        · rw [ej]
          exact fun z => h (e10.mpr z)
        · exact hno j (by omega)
    · rintro σ H2 ⟨v, rfl, rfl, hno⟩
      rw [wlen] at hno
      have en : Tote.upTo (t.drop s) = none := upTo_no fun j hj => hno j (by omega)
      have q' : Out E a.CF (match Tote.upTo (t.drop s) with
        | none => Except.error (⟨1, t.length⟩ : Tote.Fault)
        | some (l, _) => .ok (s + l.length)) _ := q
      rw [en] at q'
      have q2 : Flt E a.CF 1 (t.length : Int) := q'
      refine ⟨_, rfl, x, _, rfl, .inl hx.1, ?_⟩
      rw [wlen]
      exact flt_in q2
theorem scBad : FnScope ["text", "place", "start", "end", "byte"] ["text", "place", "start", "end"] (defScope sBad) := FnScope.of (by decide +kernel)
theorem ok_bad (T : Txt K mg a) : FnOk P w K mg base CX0 1 a.fBad a.dBad ["text", "place", "start", "end"] (spBad K) := by
  refine T.FBad.ok scBad (fun vs H Q E h => ?_) (fun cdv A outer s H vs Q E hr h => ?_)
  · obtain ⟨x, t, s, j, l, rfl, _⟩ := h
    rfl
  · obtain ⟨x, t, s, j, l, rfl, hx, hS, hj, q⟩ := h
    have hlt : s + j < t.length := by have := hS.le; omega
    have gj := hS.get hj
    refine ⟨_, pss_cons (ps_set (i := 4) scBad.nd rfl (Or.inl rfl) (pe_ix ix_list (pv 0) (pv 1) (fun _ _ => rfl)))
      (pss_cons (ps_if (pt_cmpR op_eq (pv 4) (pe_gi rfl T.v_BLANK) (nomark _))
        (pss_one (ps_ret (pe_or (pe_cmpR op_eq (pv 1) (pv 2) (nomark _)) (pe_or (pe_cmpR op_eq (pv 1) (pe_op op_sub (pv 3) pe_int) (nomark _)) (pe_one (pe_cmpR op_eq (pe_ix ix_list (pv 0) (pe_op op_sub (pv 1) pe_int) (fun _ _ => rfl)) (pe_gi rfl T.v_BLANK) (nomark _))))))) pss_nil)
      (pss_one (ps_ret (pe_or (pe_cmpR op_lt (pv 4) (pe_gi rfl T.v_BLANK) (nomark _)) (pe_one (pe_cmpR op_gt (pv 4) (pe_gi rfl T.v_LASTSIGN) (nomark _))))))), ?_⟩
    try dsimp only [L2.cxOf]
    refine ⟨_, rfl, _, rfl, x, _, _, _, rfl, rfl, hx.1, tget (j := s + j) (by omega) hlt, ?_⟩
    refine ⟨_, rfl, rfl, _, rfl, ?_⟩
    rw [gj]
    have e32 := e_int (l.getD j 0) 32 (by decide)
    refine ite2 (fun h => ?_) (fun h => ?_)
    · have hb : CM.isBad l j = (j == 0 || j + 1 == l.length || l.getD (j - 1) 0 == 32) := by
        unfold CM.isBad
        rw [if_pos (show l.getD j 0 = 32 from e32.mp h)]
      rw [hb] at q
      refine ⟨_, rfl, _, rfl, rfl, _, rfl, ?_⟩
      by_cases j0 : j = 0
      · subst j0
        have e1 : decide (V.int ((s : Int) + ((0 : Nat) : Int)) = V.int (s : Int)) = true := decide_eq_true (by simp)
        rw [e1]
        exact iteT q
      · have e1 : decide (V.int ((s : Int) + (j : Int)) = V.int (s : Int)) = false := decide_eq_false (by intro z; injection z with z; omega)
        rw [e1]
        refine iteF ⟨_, rfl, _, rfl, _, _, rfl, rfl, rfl, _, rfl, ?_⟩
        have q1 : (j == 0) = false := by simpa using j0
        rw [q1, Bool.false_or] at q
        by_cases j1 : j + 1 = l.length
        · have e2 : decide (V.int ((s : Int) + (j : Int)) = V.int ((s : Int) + (l.length : Int) - 1)) = true := decide_eq_true (by congr 1; omega)
          rw [show (j + 1 == l.length) = true from by simpa using j1, Bool.true_or] at q
          refine ite2 (fun _ => q) (fun z => absurd e2 z)
        · have e2 : decide (V.int ((s : Int) + (j : Int)) = V.int ((s : Int) + (l.length : Int) - 1)) = false := decide_eq_false (by intro z; injection z with z; omega)
          rw [show (j + 1 == l.length) = false from by simpa using j1, Bool.false_or] at q
          refine ite2 (fun z => absurd (e2.symm.trans z) (by decide)) (fun _ => ?_)
          refine ⟨_, rfl, _, rfl, _, _, rfl, rfl, x, _, _, _, rfl, rfl, hx.1, tget (j := s + (j - 1)) (by omega) (by omega), rfl, ?_⟩
          rw [hS.get (show j - 1 < l.length by omega)]
          have e3 := e_int (l.getD (j - 1) 0) 32 (by decide)
          have e4 : decide (V.int ((l.getD (j - 1) 0).toNat : Int) = V.int 32) = (l.getD (j - 1) 0 == 32) := by
            rw [Bool.eq_iff_iff, beq_iff_eq]
            exact e3
          rw [← e4] at q
          exact q
    · have hb : CM.isBad l j = (decide (l.getD j 0 < 32) || decide (126 < l.getD j 0)) := by
        unfold CM.isBad
        rw [if_neg (show ¬ l.getD j 0 = 32 from fun z => h (e32.mpr z))]
      have l1 : (l.getD j 0 < 32) ↔ (((l.getD j 0).toNat : Int) < 32) := by
        rw [UInt8.lt_iff_toNat_lt]
        show (l.getD j 0).toNat < (32 : Nat) ↔ _
        omega
      have l2 : (126 < l.getD j 0) ↔ ((126 : Int) < ((l.getD j 0).toNat : Int)) := by
        rw [UInt8.lt_iff_toNat_lt]
        show (126 : Nat) < (l.getD j 0).toNat ↔ _
        omega
      rw [hb, decide_eq_decide.mpr l1, decide_eq_decide.mpr l2] at q
      refine ⟨_, rfl, _, _, rfl, rfl, _, rfl, ?_⟩
      refine ite2 (fun z => ?_) (fun z => ?_)
      · rw [z, Bool.true_or] at q
        exact q
      · rw [Bool.not_eq_true] at z
        rw [z, Bool.false_or] at q
        exact ⟨_, rfl, _, _, rfl, rfl, q⟩
theorem scCheck : FnScope ["text", "start", "end", "place"] ["text", "start", "end"] (defScope sCheck) := FnScope.of (by decide +kernel)
theorem ok_check (T : Txt K mg a) : FnOk P w K mg base (CXF P w) 3 a.fCheck a.dCheck ["text", "start", "end"] (spCheck K a.CF) := by
  refine Fun.okF T.FCheck scCheck (fun vs H Q E h => ?_) (fun cdv A outer s H vs Q E hr h => ?_)
  · obtain ⟨x, t, s, l, rfl, _⟩ := h
    rfl
  · obtain ⟨x, t, s, l, rfl, hx, hS, q⟩ := h
    refine ⟨_, pss_cons (ps_if (pt_cmpR op_eq (pv 1) (pv 2) (nomark _)) (pss_one (ps_flt T.xF (ok_FI T) (hr.mono (by decide)) rfl T.gCF T.bFI (pa_cons (pe_gi rfl T.v_BADBYTE) (pa_cons (pv 2) pa_nil)))) pss_nil)
      (pss_one (ps_for PassesOwn.leaving rfl (pi_range2 rfl T.z_range (pa_cons (pv 1) (pa_cons (pv 2) pa_nil))) (pg_name (i := 3) scCheck.nd rfl (Or.inl rfl))
        (pss_one (ps_if (pt_val (pe_call (ok_bad T) (hr.mono (by decide)) rfl T.gBad T.FBad.kp T.bBad .nil pass0 (pa_cons (pv 0) (pa_cons (pv 3) (pa_cons (pv 1) (pa_cons (pv 2) pa_nil))))))
          (pss_one (ps_flt T.xF (ok_FI T) (hr.mono (by decide)) rfl T.gCF T.bFI (pa_cons (pe_gi rfl T.v_BADBYTE) (pa_cons (pv 3) pa_nil)))) pss_nil)))), ?_⟩
    try dsimp only [L2.cxOf]
    refine ⟨_, rfl, _, rfl, rfl, _, rfl, ?_⟩
    by_cases l0 : l = []
    · subst l0
      have q' : Out E a.CF (match Tote.badByte true 0 [] with
        | some i => Except.error (⟨2, s + i⟩ : Tote.Fault)
        | none => .ok ()) _ := q
      rw [CM.badByte_nil] at q'
      have q2 : Flt E a.CF 2 ((s + 0 : Nat) : Int) := q'
      have e1 : decide (V.int (s : Int) = V.int ((s : Int) + (([] : Tote.Bytes).length : Int))) = true := decide_eq_true (by simp)
      refine ite2 (fun _ => ?_) (fun z => absurd e1 z)
      refine ⟨_, rfl, ?_⟩
      have e2 : ((s + 0 : Nat) : Int) = (s : Int) + (([] : Tote.Bytes).length : Int) := by simp
      rw [e2] at q2
      exact flt_in q2
    · have lp : 0 < l.length := List.length_pos_iff.mpr l0
      have e1 : ¬ (decide (V.int (s : Int) = V.int ((s : Int) + (l.length : Int))) = true) := by
        rw [decide_eq_true_eq]
        intro z; injection z with z; omega
      refine ite2 (fun z => absurd z e1) (fun _ => ?_)
      have hle := hS.le
      have htl := hx.2
      refine ⟨_, rfl, _, rfl, _, _, rfl, ⟨by omega, by omega, by omega, by omega⟩, for_range (fun i σ H2 => ∃ v : Option V, σ = [some (.ref x), some (.int s), some (.int (s + l.length)), v] ∧ H2 = H ∧ CM.Clean l i) ⟨none, rfl, rfl, fun j hj => absurd hj (Nat.not_lt_zero _)⟩ ?_ ?_⟩
      · rintro i σ H2 hi ⟨v, rfl, rfl, hcl⟩
        have hlt : i < l.length := by omega
        refine ⟨_, rfl, _, rfl, _, rfl, _, rfl, x, t, s, i, l, rfl, hx, hS, hlt, _, rfl, ?_⟩
        cases hb : CM.isBad l i with
        | true =>
          have q' : Out E a.CF (match Tote.badByte true 0 l with
            | some i => Except.error (⟨2, s + i⟩ : Tote.Fault)
            | none => .ok ()) _ := q
          rw [CM.badByte_at hlt hcl hb] at q'
          have q2 : Flt E a.CF 2 ((s + i : Nat) : Int) := q'
          refine iteT ⟨_, rfl, ?_⟩
          have e2 : ((s + i : Nat) : Int) = (s : Int) + (i : Int) := by omega
          rw [e2] at q2
          exact flt_in q2
        | false =>
          refine iteF ⟨_, rfl, rfl, fun j hj => ?_⟩
          by_cases ej : j = i
          · rw [ej]; exact hb
          · exact hcl j (by omega)
      · rintro σ H2 ⟨v, rfl, rfl, hcl⟩
        have en : ((s : Int) + (l.length : Int) - (s : Int)).toNat = l.length := by omega
        rw [en] at hcl
        have q' : Out E a.CF (match Tote.badByte true 0 l with
          | some i => Except.error (⟨2, s + i⟩ : Tote.Fault)
          | none => .ok ()) _ := q
        rw [CM.badByte_none l0 hcl] at q'
        exact q'
end
end RC
set_option maxRecDepth 100000
set_option maxHeartbeats 4000000
set_option linter.all false
set_option Elab.async false
namespace RC
open PySem L2
/-! ### the words of a line -/
theorem WordsAt.push {H : Hp} {lw : Addr} {ws : List Tote.Word} {ts : List Addr} (h1 : H lw = some (.lst (ts.map V.ref))) (h2 : ts.length = ws.length)
    (h3 : ∀ (j : Nat) (t : Addr), ts[j]? = some t → ∃ (w : Tote.Word) (x : Addr), ws[j]? = some w ∧ H t = some (.tup [.int w.at_, .ref x]) ∧ WordAt H x w.w) {p t : Addr} {w : Tote.Bytes} {n : Nat} {z : Int} (hz : z = (n : Int)) (hp : H p = none) (ht : upd H p (.lst ((CM.I8 w).map V.int)) t = none) :
    WordsAt (upd (upd (upd H p (.lst ((CM.I8 w).map V.int))) t (.tup [.int z, .ref p])) lw (.lst (ts.map V.ref ++ [.ref t]))) lw (ws ++ [⟨w, n⟩]) := by
  subst hz
  have s1 : Same H (upd H p (.lst ((CM.I8 w).map V.int))) := same_new hp
  have s2 : Same (upd H p (.lst ((CM.I8 w).map V.int))) (upd (upd H p (.lst ((CM.I8 w).map V.int))) t (.tup [.int (n : Int), .ref p])) := same_new ht
  have npl : p ≠ lw := (ne_of_none h1 hp).symm
  have ntl : t ≠ lw := (ne_of_none (s1 _ _ h1) ht).symm
  have npt : p ≠ t := ne_of_none upd_same ht
  refine ⟨ts ++ [t], by rw [upd_same, List.map_append]; rfl, by rw [List.length_append, List.length_append, h2]; rfl, fun j b hb => ?_⟩
  by_cases hj : j < ts.length
  · rw [List.getElem?_append_left hj] at hb
    obtain ⟨y, x, e1, e2, e3⟩ := h3 j b hb
    refine ⟨y, x, by rw [List.getElem?_append_left (by omega)]; exact e1, ?_, ?_⟩
    · rw [upd_ne (ne_of e2 h1 (by intro z; cases z))]
      exact s2 _ _ (s1 _ _ e2)
    · have nx : x ≠ lw := ne_of e3 h1 (by
        intro z
        injection z with z
        have := congrArg (fun q => q[j]?) z
        simp only [List.getElem?_map, hb] at this
        cases hq : (CM.I8 y.w)[j]? with
        | none => rw [hq] at this; cases this
        | some _ => rw [hq] at this; cases this)
      show upd _ lw _ x = _
      rw [upd_ne nx]
      exact s2 _ _ (s1 _ _ e3)
  · have ej : j = ts.length := by
      have := (List.getElem?_eq_some_iff.mp hb).1
      rw [List.length_append, List.length_singleton] at this
      omega
    subst ej
    rw [List.getElem?_append_right (Nat.le_refl _), Nat.sub_self] at hb
    cases hb
    refine ⟨⟨w, n⟩, p, ?_, ?_, ?_⟩
    · rw [h2, List.getElem?_append_right (Nat.le_refl _), Nat.sub_self]; rfl
    · rw [upd_ne ntl, upd_same]
    · show upd _ lw _ p = _
      rw [upd_ne npl, upd_ne npt, upd_same]
theorem cut_seg {t l : Tote.Bytes} {s i f : Nat} {x y : Int} (hS : Seg t s l) (hi : i ≤ l.length) (hf : f ≤ i) (ex : x = (s : Int) + (f : Int)) (ey : y = (s : Int) + (i : Int)) : cutV ((CM.I8 t).map V.int) (some x) (some y) = (CM.I8 ((l.take i).drop f)).map V.int := by
  have h := hS.le
  unfold cutV
  rw [ex, ey, show (s : Int) + (f : Int) = ((s + f : Nat) : Int) from by omega, show (s : Int) + (i : Int) = ((s + i : Nat) : Int) from by omega, HT.sIx_nat, HT.sIx_nat, wlen, Nat.min_eq_left (by omega), Nat.min_eq_left (by omega), show s + i - (s + f) = i - f by omega, ← CM.slice_eq hS.eq hi]
  simp [CM.I8, List.map_drop, List.map_take]
section
variable {P : Program} {w : World} {K : PySem.W.Frag} {mg : Str → Option Value} {base : Heap} {a : Ad}
theorem scSplit : FnScope ["text", "start", "end", "words", "first", "place"] ["text", "start", "end"] (defScope sSplit) := FnScope.of (by decide +kernel)
theorem ok_split (T : Txt K mg a) : FnOk P w K mg base CX0 1 a.fSplit a.dSplit ["text", "start", "end"] (spSplit K) := by
  refine T.FSplit.ok scSplit (fun vs H Q E h => ?_) (fun cdv A outer s H vs Q E hr h => ?_)
  · obtain ⟨x, t, s, l, rfl, _⟩ := h
    rfl
  · obtain ⟨x, t, s, l, rfl, hx, hS, hl, hcl, q⟩ := h
    refine ⟨_, pss_cons (ps_set (i := 3) scSplit.nd rfl (Or.inl rfl) (pe_lst pa_nil)) (pss_cons (ps_set (i := 4) scSplit.nd rfl (Or.inl rfl) (pv 1))
      (pss_cons (ps_for PassesOwn.never rfl (pi_range2 rfl T.z_range (pa_cons (pv 1) (pa_cons (pe_op op_add (pv 2) pe_int) pa_nil))) (pg_name (i := 5) scSplit.nd rfl (Or.inl rfl))
        (pss_one (ps_if (PW.pt (pw_or (pt_cmpR op_eq (pv 5) (pv 2) (nomark _)) (pw_or1 (pt_cmpR op_eq (pe_ix ix_list (pv 0) (pv 5) (fun _ _ => rfl)) (pe_gi rfl T.v_BLANK) (nomark _)))))
          (pss_cons (ps_expr (pe_bm PySem.F.plainAttrs_list PySem.F.slot_list_append PySem.F.type_list_append mt_append (pv 3) (pa_cons (pe_tup (pa_cons (pv 4) (pa_cons (pe_slice sl_list (pv 0) (po_some (pv 4)) (po_some (pv 5))) pa_nil))) pa_nil)))
            (pss_one (ps_set (i := 4) scSplit.nd rfl (Or.inl rfl) (pe_op op_add (pv 5) pe_int)))) pss_nil)))
      (pss_one (ps_ret (pv 3))))), ?_⟩
    try dsimp only [L2.cxOf]
    refine ⟨(by show 0 ≤ sizeLine; decide), fun lw hlw => ?_⟩
    have hle := hS.le
    have htl := hx.2
    refine ⟨_, rfl, _, rfl, _, rfl, _, _, rfl, rfl, _, _, rfl, ⟨by omega, by omega, by omega, by omega⟩, for_range (fun i σ H2 => ∃ (v : Option V) (z : Int) (f : Nat) (ws : List Tote.Word), σ = [some (.ref x), some (.int s), some (.int (s + l.length)), some (.ref lw), some (.int z), v] ∧ z = (s : Int) + (f : Int) ∧ Same H H2 ∧ WordsAt H2 lw ws ∧ (i ≤ l.length → CM.WRun s l i f ws) ∧ (i = l.length + 1 → ws = Tote.wordsFrom s [] l)) ?_ ?_ ?_⟩
    · exact ⟨none, s, 0, [], rfl, by omega, same_new hlw, ⟨[], upd_same, rfl, fun j t h => by simp at h⟩, fun _ => CM.WRun.start s l, fun z => by omega⟩
    · rintro i σ H2 hi ⟨v, z, f, ws, rfl, hz, sm, W, hR, _⟩
      have hile : i ≤ l.length := by omega
      have R := hR hile
      have hfi := R.le
      have hwl : ws.length ≤ 66001 := by
        have e := congrArg List.length R.eq
        rw [List.length_append] at e
        have := words_len s [] l
        omega
      obtain ⟨ts, h1, h2, h3⟩ := W
      have hx2 := hx.same sm
      refine ⟨_, rfl, _, rfl, rfl, _, rfl, ?_⟩
      have push : ∀ (p u : Addr), H2 p = none → upd H2 p (.lst (cutV ((CM.I8 t).map V.int) (some z) (some ((s : Int) + (i : Int))))) u = none →
          WordsAt (upd (upd (upd H2 p (.lst (cutV ((CM.I8 t).map V.int) (some z) (some ((s : Int) + (i : Int)))))) u (.tup [.int z, .ref p])) lw (.lst (ts.map V.ref ++ [.ref u]))) lw (ws ++ [⟨(l.take i).drop f, s + f⟩]) ∧
          Same H (upd (upd (upd H2 p (.lst (cutV ((CM.I8 t).map V.int) (some z) (some ((s : Int) + (i : Int)))))) u (.tup [.int z, .ref p])) lw (.lst (ts.map V.ref ++ [.ref u]))) := by
        intro p u hp hu
        rw [cut_seg hS hile hfi hz rfl] at hu ⊢
        refine ⟨WordsAt.push h1 h2 h3 (by omega) hp hu, fun b o hb => ?_⟩
        rw [upd_ne (ne_of_none hb hlw)]
        exact (same_new hu) _ _ ((same_new hp) _ _ (sm _ _ hb))
      have e32 := e_int (t.getD (s + i) 0) 32 (by decide)
      refine ite2 (fun h => ?_) (fun h => ?_)
      · have ei : i = l.length := by
          have := of_decide_eq_true h
          injection this with this
          omega
        refine iteT ⟨_, rfl, .inl ⟨rfl, _, SqL.of h1⟩, _, rfl, _, rfl, _, rfl, _, rfl, _, rfl, _, rfl, x, _, rfl, hx2.1, fun p hp => ⟨(by show 2 ≤ sizeLine; decide), fun u hu => ?_⟩⟩
        have ⟨pW, pS⟩ := push p u hp hu
        have n1 : lw ≠ p := ne_of_none h1 hp
        have n2 : lw ≠ u := ne_of_none ((same_new hp) _ _ h1) hu
        refine ⟨lw, _, _, rfl, rfl, by rw [upd_ne n2, upd_ne n1]; exact h1, by rw [List.length_map, sizeLine_eq]; omega, _, rfl, _, _, rfl, rfl, ?_⟩
        refine ⟨_, _, i + 1, _, rfl, by omega, pS, pW, fun z => by omega, fun _ => ?_⟩
        subst ei
        exact (R.last hl hcl).1.symm
      · have hlt : i < l.length := by
          by_cases z : i = l.length
          · exact absurd (decide_eq_true (by rw [z])) h
          · omega
        refine ⟨_, rfl, _, rfl, x, _, _, _, rfl, rfl, hx2.1, tget (j := s + i) (by omega) (by omega), rfl, _, rfl, ?_⟩
        refine ite2 (fun h' => ?_) (fun h' => ?_)
        · have hb : l.getD i 0 = 32 := by rw [← hS.get hlt]; exact e32.mp h'
          refine ⟨_, rfl, .inl ⟨rfl, _, SqL.of h1⟩, _, rfl, _, rfl, _, rfl, _, rfl, _, rfl, _, rfl, x, _, rfl, hx2.1, fun p hp => ⟨(by show 2 ≤ sizeLine; decide), fun u hu => ?_⟩⟩
          have ⟨pW, pS⟩ := push p u hp hu
          have n1 : lw ≠ p := ne_of_none h1 hp
          have n2 : lw ≠ u := ne_of_none ((same_new hp) _ _ h1) hu
          refine ⟨lw, _, _, rfl, rfl, by rw [upd_ne n2, upd_ne n1]; exact h1, by rw [List.length_map, sizeLine_eq]; omega, _, rfl, _, _, rfl, rfl, ?_⟩
          exact ⟨_, _, i + 1, _, rfl, by omega, pS, pW, fun _ => R.blank hlt hcl hb, fun z => by omega⟩
        · exact ⟨_, _, f, ws, rfl, hz, sm, ⟨ts, h1, h2, h3⟩, fun _ => R.sign hlt (by rw [← hS.get hlt]; exact fun z => h' (e32.mpr z)), fun z => by omega⟩
    · rintro σ H2 ⟨v, z, f, ws, rfl, hz, sm, W, _, hW⟩
      have en : ((s : Int) + (l.length : Int) + 1 - (s : Int)).toNat = l.length + 1 := by omega
      have ew := hW en
      subst ew
      exact ⟨_, rfl, q _ lw W sm⟩
end
end RC
set_option maxRecDepth 100000
set_option maxHeartbeats 4000000
set_option linter.all false
set_option Elab.async false
namespace RC
open PySem L2
section
variable {P : Program} {w : World} {K : PySem.W.Frag} {mg : Str → Option Value} {base : Heap} {a : Ad}
theorem scLFrom : FnScope ["text", "start", "end"] ["text", "start"] (defScope sLFrom) := FnScope.of (by decide +kernel)
theorem ok_lfrom (T : Txt K mg a) : FnOk P w K mg base (CXF P w) 4 a.fLFrom a.dLFrom ["text", "start"] (spLFrom K a.CL a.CF) := by
  refine Fun.okF T.FLFrom scLFrom (fun vs H Q E h => ?_) (fun cdv A outer s H vs Q E hr h => ?_)
  · obtain ⟨x, t, s, rfl, _⟩ := h
    rfl
  · obtain ⟨x, t, s, rfl, hx, hs, q⟩ := h
    refine ⟨_, pss_cons (ps_set (i := 2) scLFrom.nd rfl (Or.inl rfl) (pe_call (ok_lend T) hr rfl T.gLEnd T.FLEnd.kp T.bLEnd .nil passF (pa_cons (pv 0) (pa_cons (pv 1) pa_nil))))
      (pss_cons (ps_expr (pe_call (ok_check T) hr rfl T.gCheck T.FCheck.kp T.bCheck .nil passF (pa_cons (pv 0) (pa_cons (pv 1) (pa_cons (pv 2) pa_nil)))))
      (pss_one (ps_ret (pe_make T.kCL (ok_LI T) (hr.mono (by decide)) rfl T.gCL T.bLI .nil pass0 (pa_cons (pe_call (ok_split T) (hr.mono (by decide)) rfl T.gSplit T.FSplit.kp T.bSplit .nil pass0 (pa_cons (pv 0) (pa_cons (pv 1) (pa_cons (pv 2) pa_nil)))) (pa_cons (pv 2) pa_nil)))))), ?_⟩
    try dsimp only [L2.cxOf]
    refine ⟨_, rfl, _, rfl, x, t, s, rfl, hx, hs, ?_⟩
    have q' : Out E a.CF (match Tote.upTo (t.drop s) with
      | none => Except.error (⟨1, t.length⟩ : Tote.Fault)
      | some (l, _) => match Tote.badByte true 0 l with
        | some i => .error ⟨2, s + i⟩
        | none => .ok (⟨Tote.wordsFrom s [] l, s + l.length⟩ : Tote.Line)) _ := q
    unfold endOf
    cases hu : Tote.upTo (t.drop s) with
    | none => rw [hu] at q'; exact q'
    | some y =>
      obtain ⟨l, r⟩ := y
      rw [hu] at q'
      have ei := CM.upTo_is hu
      have el := congrArg List.length ei
      rw [List.length_drop, List.length_append, List.length_cons] at el
      have hS : Seg t s l := ⟨by rw [ei, List.take_left], by omega⟩
      show VarR _ _ _ _
      have ec : ((s + l.length : Nat) : Int) = (s : Int) + (l.length : Int) := by omega
      rw [ec]
      refine ⟨_, rfl, _, rfl, _, rfl, x, t, s, l, rfl, hx, hS, ?_⟩
      have q2 : Out E a.CF (match Tote.badByte true 0 l with
        | some i => Except.error (⟨2, s + i⟩ : Tote.Fault)
        | none => .ok (⟨Tote.wordsFrom s [] l, s + l.length⟩ : Tote.Line)) _ := q'
      unfold checkOf
      cases hb : Tote.badByte true 0 l with
      | some i => rw [hb] at q2; exact q2
      | none =>
        rw [hb] at q2
        obtain ⟨hl, hcl⟩ := CM.clean_of hb
        refine ⟨_, rfl, _, rfl, _, rfl, x, t, s, l, rfl, hx, hS, hl, hcl, fun H1 lw W sm => ?_⟩
        refine ⟨_, rfl, fun p dx hp hdx hne => ?_⟩
        refine ⟨p, dx, lw, (s : Int) + (l.length : Int), rfl, upd_same, rfl, ?_⟩
        rw [upd_upd]
        have s1 : Same H1 (upd H1 dx (.own p)) := same_new hdx
        have hp1 : upd H1 dx (.own p) p = none := by rw [upd_ne hne.symm]; exact hp
        have s2 : Same (upd H1 dx (.own p)) (upd (upd H1 dx (.own p)) p (.ins a.CL dx (lf lw ((s : Int) + (l.length : Int)) 0 ((s : Int) + (l.length : Int))))) := same_new hp1
        have s3 := s1.trans s2
        have hlf : CM.lineFrom t s = .ok ⟨Tote.wordsFrom s [] l, s + l.length⟩ := by
          unfold CM.lineFrom
          rw [hu]
          simp only [hb]
        have hend := CM.lineFrom_end hlf
        obtain ⟨ts, h1, h2, h3⟩ := W
        have hwl := words_len s [] l
        have htl := hx.2
        refine q2 _ p ⟨dx, lw, Tote.wordsFrom s [] l, 0, ?_, ⟨ts, s3 _ _ h1, h2, fun j u hj => ?_⟩, rfl, Nat.zero_le _, hend.2.2.1, ?_, hend.2.2.2⟩ (sm.trans s3) ?_
        · rw [upd_same, ← ec]; rfl
        · obtain ⟨y, x', e1, e2, e3⟩ := h3 j u hj
          exact ⟨y, x', e1, s3 _ _ e2, s3 _ _ e3⟩
        · have := hS.le; omega
        · cases hq : H p with
          | none => rfl
          | some o => have := sm _ _ hq; rw [hp] at this; cases this
end
/-! ### fields -/
theorem put_new {f : Str} {v : V} : ∀ {l : List (Str × V)}, ¬ f ∈ l.map (·.1) → putF f v l = l ++ [(f, v)]
  | [], _ => rfl
  | (g, x) :: l, h => by
    have h1 : ¬ g = f := fun z => h (by rw [z]; exact List.mem_cons_self)
    rw [put_skip h1, put_new (l := l) fun z => h (List.mem_cons_of_mem _ z)]
    rfl
theorem lk_pre {f : Str} {v : V} {post : List (Str × V)} : ∀ {pre : List (Str × V)}, ¬ f ∈ pre.map (·.1) → (pre ++ (f, v) :: post).lookup f = some v
  | [], _ => List.lookup_cons_self
  | (g, x) :: l, h => by
    have h1 : ¬ g = f := fun z => h (by rw [z]; exact List.mem_cons_self)
    rw [List.cons_append, lk_skip h1]
    exact lk_pre (pre := l) fun z => h (List.mem_cons_of_mem _ z)
theorem lk_no {f : Str} : ∀ {l : List (Str × V)}, ¬ f ∈ l.map (·.1) → l.lookup f = none
  | [], _ => rfl
  | (g, x) :: l, h => by
    have h1 : ¬ g = f := fun z => h (by rw [z]; exact List.mem_cons_self)
    rw [lk_skip h1]
    exact lk_no (l := l) fun z => h (List.mem_cons_of_mem _ z)
/-! ### what is kept while a line is read -/
/-- no line -/
def NL (o : HO) : Prop := (∀ C dx l e i p, o ≠ .ins C dx (lf l e i p)) ∧ match o with
  | .frz _ (.ext _) => False
  | .tbl _ => False
  | _ => True
def Keep (H H' : Hp) : Prop := ∀ b o, H b = some o → NL o → H' b = some o
theorem Keep.same {H H' : Hp} (s : Same H H') : Keep H H' := fun _ _ h _ => s _ _ h
theorem Keep.fr {C : Addr} {H H' : Hp} {p : Addr} {e : Nat} {l : List Tote.Word} {pl : Int} (L : Ln C H p e l pl) (f : Fr1 p H H') : Keep H H' := fun b o h n => f b o h (by
  obtain ⟨dx, lw, i, hp⟩ := L.ins
  intro z
  subst z
  rw [hp] at h
  cases h
  exact n.1 _ _ _ _ _ _ rfl)
theorem nl_lst {xs : List V} : NL (.lst xs) := ⟨fun _ _ _ _ _ _ z => (by cases z), trivial⟩
theorem nl_tup {xs : List V} : NL (.tup xs) := ⟨fun _ _ _ _ _ _ z => (by cases z), trivial⟩
theorem nl_ins {C dx : Addr} {f : Str} {v : V} {r : List (Str × V)} (h : ¬ f = ("words" : Str)) : NL (.ins C dx ((f, v) :: r)) := ⟨fun _ _ _ _ _ _ z => by
  unfold lf at z
  injection z with _ _ z
  injection z with z
  injection z with z
  exact h z, trivial⟩
/-- the line's end is still told -/
def EndAt (C : Addr) (H : Hp) (p : Addr) (e : Nat) : Prop := ∃ (dx lw : Addr) (i pl : Int), H p = some (.ins C dx (lf lw e i pl))
theorem Ln.endAt {C : Addr} {H : Hp} {p : Addr} {e : Nat} {l : List Tote.Word} {pl : Int} (L : Ln C H p e l pl) : EndAt C H p e := by
  obtain ⟨dx, lw, i, hp⟩ := L.ins
  exact ⟨dx, lw, i, pl, hp⟩
/-! ### races, pools, the card -/
def rf (n : Int) (lc : Addr) : List (Str × V) := [("runners", .int n), ("couples", .ref lc)]
def pf (x : Addr) (kd k r t b m u z : Int) : List (Str × V) := [("name", .ref x), ("kind", .int kd), ("k", .int k), ("race", .int r), ("take", .int t), ("brk", .int b), ("least", .int m), ("unit", .int u), ("none", .int z)]
def cf (dn lr lp : Addr) : List (Str × V) := [("day_name", .ref dn), ("races", .ref lr), ("pools", .ref lp)]
def kindNo : Tote.Kind → Nat
  | .place => 0
  | .order => 1
  | .any => 2
  | .legs => 3
def noneNo : Tote.None_ → Nat
  | .refund => 0
  | .carry => 1
  | .fewer => 2
def CouplesAt (H : Hp) (lc : Addr) (cs : List (Nat × Nat)) : Prop := ∃ ts : List Addr, H lc = some (.lst (ts.map V.ref)) ∧ ts.length = cs.length ∧
  ∀ (j : Nat) (t : Addr), ts[j]? = some t → ∃ c : Nat × Nat, cs[j]? = some c ∧ H t = some (.tup [.int c.1, .int c.2])
structure RaceAt (C : Addr) (H : Hp) (q lc : Addr) (r : CM.PRace) : Prop where
  ins : ∃ dx : Addr, H q = some (.ins C dx (rf r.1 lc))
  cp : CouplesAt H lc r.2
def PoolAt (C : Addr) (H : Hp) (y x : Addr) (p : Tote.Pool) : Prop := (∃ dx : Addr, H y = some (.ins C dx (pf x (kindNo p.kind) p.k p.race p.take p.brk p.least p.unit (noneNo p.none_)))) ∧ WordAt H x p.name
structure GoodR (r : CM.PRace) : Prop where
  ok : CM.COk r.1 r.2
  few : r.2.length ≤ 8
  run : r.1 ≤ 24
structure GoodP (p : Tote.Pool) : Prop where
  nm : p.name.length ≤ 12
  k : p.k ≤ 6
  race : p.race ≤ 16
  take : p.take ≤ 400
  brk : p.brk ≤ 1000
  least : p.least ≤ 20000
  unit : p.unit ≤ 10000
/-- the card at c: the day's name, the races, the pools -/
structure CardIn (a : Ad) (H : Hp) (c dn lr lp : Addr) (qs ys : List Addr) (n : Tote.Bytes) (rs : List CM.PRace) (ps : List Tote.Pool) : Prop where
  ins : ∃ dx : Addr, H c = some (.ins a.CC dx (cf dn lr lp))
  day : WordAt H dn n
  ndr : dn ≠ lr
  ndp : dn ≠ lp
  hlr : H lr = some (.lst (qs.map V.ref))
  hlp : H lp = some (.lst (ys.map V.ref))
  nrp : lr ≠ lp
  lenr : qs.length = rs.length
  lenp : ys.length = ps.length
  race : ∀ (j : Nat) (q : Addr), qs[j]? = some q → ∃ (lc : Addr) (r : CM.PRace), rs[j]? = some r ∧ RaceAt a.CR H q lc r ∧ lc ≠ lr ∧ lc ≠ lp
  pool : ∀ (j : Nat) (y : Addr), ys[j]? = some y → ∃ (x : Addr) (p : Tote.Pool), ps[j]? = some p ∧ PoolAt a.CP H y x p ∧ x ≠ lp
  good : ∀ r ∈ rs, GoodR r
  goodp : ∀ p ∈ ps, GoodP p
  dl : n.length ≤ 12
  fewr : rs.length ≤ 16
  fewp : ps.length ≤ 64
def CardAt (a : Ad) (H : Hp) (c : Addr) (n : Tote.Bytes) (rs : List CM.PRace) (ps : List Tote.Pool) : Prop := ∃ (dn lr lp : Addr) (qs ys : List Addr), CardIn a H c dn lr lp qs ys n rs ps
theorem CouplesAt.keep {H H' : Hp} {lc : Addr} {cs : List (Nat × Nat)} (h : CouplesAt H lc cs) (k : Keep H H') : CouplesAt H' lc cs := by
  obtain ⟨ts, h1, h2, h3⟩ := h
  refine ⟨ts, k _ _ h1 nl_lst, h2, fun j t hj => ?_⟩
  obtain ⟨c, e1, e2⟩ := h3 j t hj
  exact ⟨c, e1, k _ _ e2 nl_tup⟩
theorem nl_rf {C dx lc : Addr} {n : Int} : NL (.ins C dx (rf n lc)) := nl_ins (by decide +kernel)
theorem nl_pf {C dx x : Addr} {kd k r t b m u z : Int} : NL (.ins C dx (pf x kd k r t b m u z)) := nl_ins (by decide +kernel)
theorem nl_cf {C dx dn lr lp : Addr} : NL (.ins C dx (cf dn lr lp)) := nl_ins (by decide +kernel)
theorem RaceAt.keep {C : Addr} {H H' : Hp} {q lc : Addr} {r : CM.PRace} (h : RaceAt C H q lc r) (k : Keep H H') : RaceAt C H' q lc r := by
  obtain ⟨dx, e⟩ := h.ins
  exact ⟨⟨dx, k _ _ e nl_rf⟩, h.cp.keep k⟩
theorem PoolAt.keep {C : Addr} {H H' : Hp} {y x : Addr} {p : Tote.Pool} (h : PoolAt C H y x p) (k : Keep H H') : PoolAt C H' y x p := by
  obtain ⟨⟨dx, e⟩, h2⟩ := h
  exact ⟨⟨dx, k _ _ e nl_pf⟩, k _ _ h2 nl_lst⟩
theorem CardIn.keep {a : Ad} {H H' : Hp} {c dn lr lp : Addr} {qs ys : List Addr} {n : Tote.Bytes} {rs : List CM.PRace} {ps : List Tote.Pool} (h : CardIn a H c dn lr lp qs ys n rs ps) (k : Keep H H') : CardIn a H' c dn lr lp qs ys n rs ps := by
  obtain ⟨dx, e⟩ := h.ins
  refine { h with ins := ⟨dx, k _ _ e nl_cf⟩, day := k _ _ h.day nl_lst, hlr := k _ _ h.hlr nl_lst, hlp := k _ _ h.hlp nl_lst, race := fun j q hq => ?_, pool := fun j y hy => ?_ }
  · obtain ⟨lc, r, e1, e2, e3⟩ := h.race j q hq
    exact ⟨lc, r, e1, e2.keep k, e3⟩
  · obtain ⟨x, p, e1, e2, e3⟩ := h.pool j y hy
    exact ⟨x, p, e1, e2.keep k, e3⟩
end RC
set_option maxRecDepth 100000
set_option maxHeartbeats 4000000
set_option linter.all false
set_option Elab.async false
namespace RC
open PySem L2
/-! ### contracts of reading.py -/
inductive SpRI (C : Addr) (vs : List V) (H : Hp) (Q : VK) (E : XK) : Prop
  | mk (q dx : Addr) (n : Int) (h0 : vs = [.ref q, .int n]) (h1 : H q = some (.ins C dx [])) (h2 : ∀ (H' : Hp) (lc : Addr), H lc = none → H' q = some (.ins C dx (rf n lc)) → H' lc = some (.lst []) → Fr1 q H H' → Q .non H') : SpRI C vs H Q E
abbrev spRI (C : Addr) : Sp := fun vs H Q E => SpRI C vs H Q E
inductive SpInt (C : Addr) (vs : List V) (H : Hp) (Q : VK) (E : XK) : Prop
  | mk (q lc : Addr) (r : CM.PRace) (h0 : vs = [.ref q]) (h1 : RaceAt C H q lc r) (h2 : Q (.int ((r.1 : Int) - (r.2.length : Int))) H) : SpInt C vs H Q E
abbrev spInt (C : Addr) : Sp := fun vs H Q E => SpInt C vs H Q E
inductive SpPI (C : Addr) (vs : List V) (H : Hp) (Q : VK) (E : XK) : Prop
  | mk (y dx x : Addr) (kd k r t b m u z : Int) (h0 : vs = [.ref y, .ref x, .int kd, .int k, .int r, .int t, .int b, .int m, .int u, .int z]) (h1 : H y = some (.ins C dx [])) (h2 : Q .non (upd H y (.ins C dx (pf x kd k r t b m u z)))) : SpPI C vs H Q E
abbrev spPI (C : Addr) : Sp := fun vs H Q E => SpPI C vs H Q E
inductive SpCI (C : Addr) (vs : List V) (H : Hp) (Q : VK) (E : XK) : Prop
  | mk (c dx dn : Addr) (h0 : vs = [.ref c, .ref dn]) (h1 : H c = some (.ins C dx [])) (h2 : ∀ (H' : Hp) (lr lp : Addr), H lr = none → H lp = none → lr ≠ lp → H' c = some (.ins C dx (cf dn lr lp)) → H' lr = some (.lst []) → H' lp = some (.lst []) → Fr1 c H H' → Q .non H') : SpCI C vs H Q E
abbrev spCI (C : Addr) : Sp := fun vs H Q E => SpCI C vs H Q E
inductive SpDay (C D : Addr) (vs : List V) (H : Hp) (Q : VK) (E : XK) : Prop
  | mk (p : Addr) (e : Nat) (l : List Tote.Word) (pl : Int) (h0 : vs = [.ref p]) (h1 : Ln C H p e l pl) (h2 : Out E D (CM.dayOf e l) fun n => ∀ (H' : Hp) (x : Addr), EndAt C H' p e → Fr1 p H H' → WordAt H' x n → n.length ≤ 12 → Q (.ref x) H') : SpDay C D vs H Q E
abbrev spDay (C D : Addr) : Sp := fun vs H Q E => SpDay C D vs H Q E
inductive SpCouple (C R D : Addr) (vs : List V) (H : Hp) (Q : VK) (E : XK) : Prop
  | mk (p q lc : Addr) (e : Nat) (l : List Tote.Word) (pl : Int) (r : CM.PRace) (h0 : vs = [.ref p, .ref q]) (h1 : Ln C H p e l pl) (h2 : RaceAt R H q lc r) (h3 : r.1 ≤ 24) (h4 : r.2.length ≤ 8) (h5 : Out E D (CM.coupleOf e r.1 r.2 l) fun y => ∀ (H' : Hp) (t : Addr) (pl' : Int), Ln C H' p e y.2 pl' → Fr1 p H H' → H' t = some (.tup [.int y.1.1, .int y.1.2]) → Q (.ref t) H') : SpCouple C R D vs H Q E
abbrev spCouple (C R D : Addr) : Sp := fun vs H Q E => SpCouple C R D vs H Q E
theorem rf_runners {n : Int} {lc : Addr} : (rf n lc).lookup ("runners" : Str) = some (.int n) := lk_pre (pre := []) (by decide +kernel)
theorem rf_couples {n : Int} {lc : Addr} : (rf n lc).lookup ("couples" : Str) = some (.ref lc) := lk_pre (pre := [("runners", .int n)]) (show ¬ (("couples" : Str) ∈ [("runners" : Str)]) from by decide +kernel)
theorem cf_day {dn lr lp : Addr} : (cf dn lr lp).lookup ("day_name" : Str) = some (.ref dn) := lk_pre (pre := []) (by decide +kernel)
theorem cf_races {dn lr lp : Addr} : (cf dn lr lp).lookup ("races" : Str) = some (.ref lr) := lk_pre (pre := [("day_name", .ref dn)]) (show ¬ (("races" : Str) ∈ [("day_name" : Str)]) from by decide +kernel)
theorem cf_pools {dn lr lp : Addr} : (cf dn lr lp).lookup ("pools" : Str) = some (.ref lp) := lk_pre (pre := [("day_name", .ref dn), ("races", .ref lr)]) (show ¬ (("pools" : Str) ∈ [("day_name" : Str), "races"]) from by decide +kernel)
theorem pf_name {x : Addr} {kd k r t b m u z : Int} : (pf x kd k r t b m u z).lookup ("name" : Str) = some (.ref x) := lk_pre (pre := []) (by decide +kernel)
theorem rf_made (n : Int) (lc : Addr) : putF "couples" (.ref lc) (putF "runners" (.int n) []) = rf n lc := by
  rw [put_new (l := []) (by decide +kernel)]
  exact put_new (show ¬ (("couples" : Str) ∈ [("runners" : Str)]) from by decide +kernel)
theorem cf_made (dn lr lp : Addr) : putF "pools" (.ref lp) (putF "races" (.ref lr) (putF "day_name" (.ref dn) [])) = cf dn lr lp := by
  have e0 : putF "day_name" (.ref dn) ([] : List (Str × V)) = ([("day_name", .ref dn)] : List (Str × V)) := put_new (show ¬ (("day_name" : Str) ∈ ([] : List Str)) from by decide +kernel)
  have e1 : putF "races" (.ref lr) ([("day_name", .ref dn)] : List (Str × V)) = ([("day_name", .ref dn), ("races", .ref lr)] : List (Str × V)) := put_new (show ¬ (("races" : Str) ∈ (["day_name"] : List Str)) from by decide +kernel)
  have e2 : putF "pools" (.ref lp) ([("day_name", .ref dn), ("races", .ref lr)] : List (Str × V)) = ([("day_name", .ref dn), ("races", .ref lr), ("pools", .ref lp)] : List (Str × V)) := put_new (show ¬ (("pools" : Str) ∈ (["day_name", "races"] : List Str)) from by decide +kernel)
  rw [e0, e1, e2]
  rfl
theorem pf_made (x : Addr) (kd k r t b m u z : Int) : putF "none" (.int z) (putF "unit" (.int u) (putF "least" (.int m) (putF "brk" (.int b) (putF "take" (.int t) (putF "race" (.int r) (putF "k" (.int k) (putF "kind" (.int kd) (putF "name" (.ref x) [])))))))) = pf x kd k r t b m u z := by
  have e0 : putF "name" (.ref x) ([] : List (Str × V)) = ([("name", .ref x)] : List (Str × V)) := put_new (show ¬ (("name" : Str) ∈ ([] : List Str)) from by decide +kernel)
  have e1 : putF "kind" (.int kd) ([("name", .ref x)] : List (Str × V)) = ([("name", .ref x), ("kind", .int kd)] : List (Str × V)) := put_new (show ¬ (("kind" : Str) ∈ (["name"] : List Str)) from by decide +kernel)
  have e2 : putF "k" (.int k) ([("name", .ref x), ("kind", .int kd)] : List (Str × V)) = ([("name", .ref x), ("kind", .int kd), ("k", .int k)] : List (Str × V)) := put_new (show ¬ (("k" : Str) ∈ (["name", "kind"] : List Str)) from by decide +kernel)
  have e3 : putF "race" (.int r) ([("name", .ref x), ("kind", .int kd), ("k", .int k)] : List (Str × V)) = ([("name", .ref x), ("kind", .int kd), ("k", .int k), ("race", .int r)] : List (Str × V)) := put_new (show ¬ (("race" : Str) ∈ (["name", "kind", "k"] : List Str)) from by decide +kernel)
  have e4 : putF "take" (.int t) ([("name", .ref x), ("kind", .int kd), ("k", .int k), ("race", .int r)] : List (Str × V)) = ([("name", .ref x), ("kind", .int kd), ("k", .int k), ("race", .int r), ("take", .int t)] : List (Str × V)) := put_new (show ¬ (("take" : Str) ∈ (["name", "kind", "k", "race"] : List Str)) from by decide +kernel)
  have e5 : putF "brk" (.int b) ([("name", .ref x), ("kind", .int kd), ("k", .int k), ("race", .int r), ("take", .int t)] : List (Str × V)) = ([("name", .ref x), ("kind", .int kd), ("k", .int k), ("race", .int r), ("take", .int t), ("brk", .int b)] : List (Str × V)) := put_new (show ¬ (("brk" : Str) ∈ (["name", "kind", "k", "race", "take"] : List Str)) from by decide +kernel)
  have e6 : putF "least" (.int m) ([("name", .ref x), ("kind", .int kd), ("k", .int k), ("race", .int r), ("take", .int t), ("brk", .int b)] : List (Str × V)) = ([("name", .ref x), ("kind", .int kd), ("k", .int k), ("race", .int r), ("take", .int t), ("brk", .int b), ("least", .int m)] : List (Str × V)) := put_new (show ¬ (("least" : Str) ∈ (["name", "kind", "k", "race", "take", "brk"] : List Str)) from by decide +kernel)
  have e7 : putF "unit" (.int u) ([("name", .ref x), ("kind", .int kd), ("k", .int k), ("race", .int r), ("take", .int t), ("brk", .int b), ("least", .int m)] : List (Str × V)) = ([("name", .ref x), ("kind", .int kd), ("k", .int k), ("race", .int r), ("take", .int t), ("brk", .int b), ("least", .int m), ("unit", .int u)] : List (Str × V)) := put_new (show ¬ (("unit" : Str) ∈ (["name", "kind", "k", "race", "take", "brk", "least"] : List Str)) from by decide +kernel)
  have e8 : putF "none" (.int z) ([("name", .ref x), ("kind", .int kd), ("k", .int k), ("race", .int r), ("take", .int t), ("brk", .int b), ("least", .int m), ("unit", .int u)] : List (Str × V)) = ([("name", .ref x), ("kind", .int kd), ("k", .int k), ("race", .int r), ("take", .int t), ("brk", .int b), ("least", .int m), ("unit", .int u), ("none", .int z)] : List (Str × V)) := put_new (show ¬ (("none" : Str) ∈ (["name", "kind", "k", "race", "take", "brk", "least", "unit"] : List Str)) from by decide +kernel)
  rw [e0, e1, e2, e3, e4, e5, e6, e7, e8]
  rfl
theorem upd_none {H : Hp} {b c : Addr} {o : HO} (h : upd H b o c = none) : H c = none ∧ c ≠ b := by
  by_cases z : c = b
  · subst z
    rw [upd_same] at h
    cases h
  · rw [upd_ne z] at h
    exact ⟨h, z⟩
theorem length_put (f : Str) (v : V) (l : List (Str × V)) (k : Nat) (h : l.length ≤ k) : (putF f v l).length ≤ k + 1 := by
  have := length_putF f v l
  omega
section
variable {P : Program} {w : World} {K : PySem.W.Frag} {mg : Str → Option Value} {base : Heap} {a : Ad}
theorem scRI : FnScope ["self", "runners"] ["self", "runners"] (defScope sRI) := FnScope.of (by decide +kernel)
theorem ok_RI (T : Txt K mg a) : FnOk P w K mg base CX0 1 a.fRI a.dRI ["self", "runners"] (spRI a.CR) := by
  refine T.FRI.ok scRI (fun vs H Q E h => ?_) (fun cdv A outer s H vs Q E hr h => ?_)
  · obtain ⟨p, dx, n, rfl, _⟩ := h
    rfl
  · obtain ⟨p, dx, n, rfl, hp, q⟩ := h
    refine ⟨_, pss_cons (ps_fld (pv 0) (pv 1) rfl) (pss_one (ps_fld (pv 0) (pe_lst pa_nil) rfl)), ?_⟩
    try dsimp only [L2.cxOf]
    refine ⟨_, rfl, _, rfl, p, a.CR, dx, [], rfl, hp, T.cCR, T.nCR_runners, (by show 0 < 1000; decide), ?_⟩
    refine ⟨(by show 0 ≤ sizeLine; decide), fun lc hlc => ?_⟩
    obtain ⟨h1, h2⟩ := upd_none hlc
    refine ⟨_, rfl, p, a.CR, dx, _, rfl, by rw [upd_ne h2.symm, upd_same], T.cCR, T.nCR_couples, (by have := length_put "runners" (.int n) [] 0 (Nat.le_refl _); omega), ?_⟩
    rw [rf_made]
    refine q _ lc h1 upd_same (by rw [upd_ne h2, upd_same]) fun b o hb hn => ?_
    rw [upd_ne hn, upd_ne (ne_of_none hb h1), upd_ne hn]
    exact hb
theorem scInt : FnScope ["self"] ["self"] (defScope sInt) := FnScope.of (by decide +kernel)
theorem ok_int (T : Txt K mg a) : FnOk P w K mg base CX0 1 a.fInt a.dInt ["self"] (spInt a.CR) := by
  refine T.FInt.ok scInt (fun vs H Q E h => ?_) (fun cdv A outer s H vs Q E hr h => ?_)
  · obtain ⟨p, lc, r, rfl, _⟩ := h
    rfl
  · obtain ⟨p, lc, r, rfl, R, q⟩ := h
    obtain ⟨dx, hp⟩ := R.ins
    obtain ⟨ts, h1, h2, h3⟩ := R.cp
    refine ⟨_, pss_one (ps_ret (pe_op op_sub (pe_fld (pv 0) rfl) (pe_callB call_len_seq (by rfl) T.z_len PySem.boot_len (pa_cons (pe_fld (pv 0) rfl) pa_nil)))), ?_⟩
    try dsimp only [L2.cxOf]
    refine ⟨_, rfl, p, a.CR, dx, _, _, rfl, hp, T.cCR, T.nCR_runners, rf_runners, _, rfl, p, a.CR, dx, _, _, rfl, hp, T.cCR, T.nCR_couples, rf_couples, lc, _, rfl, .inl (SqL.of h1), _, _, rfl, rfl, ?_⟩
    rw [List.length_map, h2]
    exact q
theorem scPI : FnScope ["self", "name", "kind", "k", "race", "take", "brk", "least", "unit", "none"] ["self", "name", "kind", "k", "race", "take", "brk", "least", "unit", "none"] (defScope sPI) := FnScope.of (by decide +kernel)
theorem ok_PI (T : Txt K mg a) : FnOk P w K mg base CX0 1 a.fPI a.dPI ["self", "name", "kind", "k", "race", "take", "brk", "least", "unit", "none"] (spPI a.CP) := by
  refine T.FPI.ok scPI (fun vs H Q E h => ?_) (fun cdv A outer s H vs Q E hr h => ?_)
  · obtain ⟨y, dx, x, kd, k, r, t, b, m, u, z, rfl, _⟩ := h
    rfl
  · obtain ⟨y, dx, x, kd, k, r, t, b, m, u, z, rfl, hp, q⟩ := h
    refine ⟨_, pss_cons (ps_fld (pv 0) (pv 1) rfl) (pss_cons (ps_fld (pv 0) (pv 2) rfl) (pss_cons (ps_fld (pv 0) (pv 3) rfl) (pss_cons (ps_fld (pv 0) (pv 4) rfl) (pss_cons (ps_fld (pv 0) (pv 5) rfl) (pss_cons (ps_fld (pv 0) (pv 6) rfl) (pss_cons (ps_fld (pv 0) (pv 7) rfl) (pss_cons (ps_fld (pv 0) (pv 8) rfl) (pss_one (ps_fld (pv 0) (pv 9) rfl))))))))), ?_⟩
    try dsimp only [L2.cxOf]
    have l1 := length_put "name" (.ref x) [] 0 (Nat.le_refl _)
    have l2 := length_put "kind" (.int kd) _ _ l1
    have l3 := length_put "k" (.int k) _ _ l2
    have l4 := length_put "race" (.int r) _ _ l3
    have l5 := length_put "take" (.int t) _ _ l4
    have l6 := length_put "brk" (.int b) _ _ l5
    have l7 := length_put "least" (.int m) _ _ l6
    have l8 := length_put "unit" (.int u) _ _ l7
    refine ⟨_, rfl, _, rfl, y, a.CP, dx, [], rfl, hp, T.cCP, T.nCP_name, (by show 0 < 1000; decide), ?_⟩
    refine ⟨_, rfl, _, rfl, y, a.CP, dx, _, rfl, upd_same, T.cCP, T.nCP_kind, (by omega), ?_⟩
    refine ⟨_, rfl, _, rfl, y, a.CP, dx, _, rfl, upd_same, T.cCP, T.nCP_k, (by omega), ?_⟩
    refine ⟨_, rfl, _, rfl, y, a.CP, dx, _, rfl, upd_same, T.cCP, T.nCP_race, (by omega), ?_⟩
    refine ⟨_, rfl, _, rfl, y, a.CP, dx, _, rfl, upd_same, T.cCP, T.nCP_take, (by omega), ?_⟩
    refine ⟨_, rfl, _, rfl, y, a.CP, dx, _, rfl, upd_same, T.cCP, T.nCP_brk, (by omega), ?_⟩
    refine ⟨_, rfl, _, rfl, y, a.CP, dx, _, rfl, upd_same, T.cCP, T.nCP_least, (by omega), ?_⟩
    refine ⟨_, rfl, _, rfl, y, a.CP, dx, _, rfl, upd_same, T.cCP, T.nCP_unit, (by omega), ?_⟩
    refine ⟨_, rfl, _, rfl, y, a.CP, dx, _, rfl, upd_same, T.cCP, T.nCP_none, (by omega), ?_⟩
    rw [upd_upd, upd_upd, upd_upd, upd_upd, upd_upd, upd_upd, upd_upd, upd_upd, pf_made]
    exact q
theorem scCI : FnScope ["self", "day_name"] ["self", "day_name"] (defScope sCI) := FnScope.of (by decide +kernel)
theorem ok_CI (T : Txt K mg a) : FnOk P w K mg base CX0 1 a.fCI a.dCI ["self", "day_name"] (spCI a.CC) := by
  refine T.FCI.ok scCI (fun vs H Q E h => ?_) (fun cdv A outer s H vs Q E hr h => ?_)
  · obtain ⟨p, dx, n, rfl, _⟩ := h
    rfl
  · obtain ⟨p, dx, n, rfl, hp, q⟩ := h
    refine ⟨_, pss_cons (ps_fld (pv 0) (pv 1) rfl) (pss_cons (ps_fld (pv 0) (pe_lst pa_nil) rfl) (pss_one (ps_fld (pv 0) (pe_lst pa_nil) rfl))), ?_⟩
    try dsimp only [L2.cxOf]
    have l1 := length_put "day_name" (.ref n) [] 0 (Nat.le_refl _)
    refine ⟨_, rfl, _, rfl, p, a.CC, dx, [], rfl, hp, T.cCC, T.nCC_day_name, (by show 0 < 1000; decide), ?_⟩
    refine ⟨(by show 0 ≤ sizeLine; decide), fun lr hlr => ?_⟩
    obtain ⟨h1, h2⟩ := upd_none hlr
    have l2 := length_put "races" (.ref lr) _ _ l1
    refine ⟨_, rfl, p, a.CC, dx, _, rfl, by rw [upd_ne h2.symm, upd_same], T.cCC, T.nCC_races, (by omega), ?_⟩
    refine ⟨(by show 0 ≤ sizeLine; decide), fun lp hlp => ?_⟩
    obtain ⟨hlp1, hlp2⟩ := upd_none hlp
    obtain ⟨hlp3, hlp4⟩ := upd_none hlp1
    obtain ⟨hlp5, _⟩ := upd_none hlp3
    refine ⟨_, rfl, p, a.CC, dx, _, rfl, by rw [upd_ne hlp2.symm, upd_same], T.cCC, T.nCC_pools, (by omega), ?_⟩
    rw [cf_made]
    refine q _ lr lp h1 hlp5 hlp4.symm upd_same (by rw [upd_ne h2, upd_ne hlp4.symm, upd_ne h2, upd_same]) (by rw [upd_ne hlp2, upd_same]) fun b o hb hn => ?_
    rw [upd_ne hn, upd_ne (ne_of_none hb hlp5), upd_ne hn, upd_ne (ne_of_none hb h1), upd_ne hn]
    exact hb
theorem g_day : GoodS "day" := ⟨by decide +kernel, by decide +kernel⟩
theorem scDay : FnScope ["line", "name"] ["line"] (defScope sDay) := FnScope.of (by decide +kernel)
theorem new_name (e : Nat) (had : List Tote.Bytes) (l : List Tote.Word) : Tote.newName e had l = match nameOf e l with
    | .error f => .error f
    | .ok y => if had.contains y.1.w = true then .error ⟨5, y.1.at_⟩ else .ok (y.1.w, y.2) := by
  cases l with
  | nil => rfl
  | cons y r =>
    show (if Tote.isName y.w = false then Except.error (⟨4, y.at_⟩ : Tote.Fault) else if had.contains y.w = true then .error ⟨5, y.at_⟩ else .ok (y.w, r)) = match (if Tote.isName y.w = false then Except.error (⟨4, y.at_⟩ : Tote.Fault) else .ok (y, r)) with
      | .error f => .error f
      | .ok y => if had.contains y.1.w = true then .error ⟨5, y.1.at_⟩ else .ok (y.1.w, y.2)
    by_cases h : Tote.isName y.w = false
    · rw [if_pos h, if_pos h]
    · rw [if_neg h, if_neg h]
theorem name_len {w : Tote.Bytes} (h : Tote.isName w = true) : w.length ≤ 12 := by
  by_cases z : 12 < w.length
  · rw [CM.name_long z] at h; cases h
  · omega
theorem nameOf_ok {e : Nat} {l : List Tote.Word} {z : Tote.Word × List Tote.Word} (h : nameOf e l = .ok z) : z.1.w.length ≤ 12 := by
  cases l with
  | nil => cases h
  | cons y r =>
    have h' : (if Tote.isName y.w = false then Except.error (⟨4, y.at_⟩ : Tote.Fault) else .ok (y, r)) = .ok z := h
    split at h'
    · cases h'
    · rename_i n
      cases h'
      exact name_len (by simpa using n)
theorem ok_day (T : Txt K mg a) : FnOk P w K mg base (CXF P w) 6 a.fDay a.dDay ["line"] (spDay a.CL a.CF) := by
  refine Fun.okF T.FDay scDay (fun vs H Q E h => ?_) (fun cdv A outer s H vs Q E hr h => ?_)
  · obtain ⟨p, e, l, pl, rfl, _⟩ := h
    rfl
  · obtain ⟨p, e, l, pl, rfl, L, q⟩ := h
    obtain ⟨dx, lw, i0, hp⟩ := L.ins
    refine ⟨_, pss_cons (ps_expr (pe_meth (pv 0) T.cCL T.mFixed (ok_fixed T) hr T.bFixed .nil passF (pa_cons pe_str pa_nil)))
      (pss_cons (ps_set (i := 1) scDay.nd rfl (Or.inl rfl) (pe_meth0 (pv 0) T.cCL T.mTName (ok_tname T) (hr.mono (by decide)) T.bTName .nil passF))
      (pss_cons (ps_expr (pe_meth0 (pv 0) T.cCL T.mFin (ok_fin T) (hr.mono (by decide)) T.bFin .nil passF))
      (pss_one (ps_ret (pv 1))))), ?_⟩
    try dsimp only [L2.cxOf]
    have q0 : Out E a.CF (Tote.must e "day" l >>= fun m => Tote.newName e [] m >>= fun n => Tote.closed n.2 >>= fun _ => .ok n.1) _ := q
    refine ⟨_, rfl, p, dx, _, rfl, hp, ln_no, p, e, l, pl, "day", rfl, L, g_day, (Out.bind q0).mono fun m _ qm => ?_⟩
    intro H1 y _ L1 f1
    obtain ⟨dx1, lw1, i1, hp1⟩ := L1.ins
    refine ⟨_, rfl, p, dx1, _, rfl, hp1, ln_no, p, e, m, _, rfl, L1, ?_⟩
    have qn := Out.bind qm
    rw [new_name] at qn
    cases hn : nameOf e m with
    | error f => rw [hn] at qn; exact qn
    | ok z =>
      rw [hn] at qn
      have qz : Out E a.CF (Tote.closed z.2 >>= fun _ => Except.ok z.1.w) _ := qn
      intro H2 x L2' f2 hx
      obtain ⟨dx2, lw2, i2, hp2⟩ := L2'.ins
      refine ⟨_, rfl, p, dx2, _, rfl, hp2, ln_no, p, e, z.2, _, rfl, L2', (Out.bind qz).mono fun _ _ qu => ?_⟩
      exact ⟨_, rfl, qu H2 x L2'.endAt (f1.trans f2) hx (nameOf_ok hn)⟩
end
end RC
set_option maxRecDepth 100000
set_option maxHeartbeats 4000000
set_option linter.all false
set_option Elab.async false
namespace RC
open PySem L2
theorem must_yes {e : Nat} {s : String} {y : Tote.Word} {m : List Tote.Word} (h : y.w = Tote.ascii s) : Tote.must e s (y :: m) = .ok m := by
  show (if y.w = Tote.ascii s then Except.ok m else .error (⟨3, y.at_⟩ : Tote.Fault)) = _
  rw [if_pos h]
theorem must_no {e : Nat} {s : String} {y : Tote.Word} {m : List Tote.Word} (h : ¬ y.w = Tote.ascii s) : Tote.must e s (y :: m) = .error ⟨3, y.at_⟩ := by
  show (if y.w = Tote.ascii s then Except.ok m else .error (⟨3, y.at_⟩ : Tote.Fault)) = _
  rw [if_neg h]
theorem in_nums {α : Type} (g : α → Nat) (n : Nat) (cs : List α) : inV (V.int (n : Int)) (cs.map fun c => V.int (g c : Int)) = cs.any fun c => g c == n := by
  unfold inV
  rw [List.any_map]
  congr 1
  funext c
  show ((g c : Int) == (n : Int)) = (g c == n)
  rw [Bool.eq_iff_iff, beq_iff_eq, beq_iff_eq]
  omega
theorem any_or {α : Type} (f g : α → Bool) : ∀ cs : List α, (cs.any fun x => f x || g x) = (cs.any f || cs.any g)
  | [] => rfl
  | c :: cs => by
    rw [List.any_cons, List.any_cons, List.any_cons, any_or f g cs]
    cases f c <;> cases g c <;> cases cs.any f <;> cases cs.any g <;> rfl
theorem flat_nums {α : Type} (g : α → Nat) : ∀ cs : List α, (cs.map fun c => V.int (g c : Int)).all flatV = true
  | [] => rfl
  | c :: cs => by rw [List.map_cons, List.all_cons, flat_nums g cs]; rfl
theorem g_couple : GoodS "couple" := ⟨by decide +kernel, by decide +kernel⟩
theorem ints_refs {w : Tote.Bytes} {ts : List Addr} (hw : w ≠ []) : HO.lst ((CM.I8 w).map V.int) ≠ HO.lst (ts.map V.ref) := by
  intro z
  injection z with z
  cases w with
  | nil => exact hw rfl
  | cons c r =>
    cases ts with
    | nil => cases z
    | cons t ts =>
      injection z with z _
      cases z
theorem CouplesAt.push {H : Hp} {lc t : Addr} {cs : List (Nat × Nat)} {ts : List Addr} {c : Nat × Nat} (h1 : H lc = some (.lst (ts.map V.ref))) (h2 : ts.length = cs.length)
    (h3 : ∀ (j : Nat) (t : Addr), ts[j]? = some t → ∃ c : Nat × Nat, cs[j]? = some c ∧ H t = some (.tup [.int c.1, .int c.2])) (ht : H t = some (.tup [.int c.1, .int c.2])) : CouplesAt (upd H lc (.lst (ts.map V.ref ++ [.ref t]))) lc (cs ++ [c]) := by
  refine ⟨ts ++ [t], by rw [upd_same, List.map_append]; rfl, by rw [List.length_append, List.length_append, h2]; rfl, fun j b hb => ?_⟩
  by_cases hj : j < ts.length
  · rw [List.getElem?_append_left hj] at hb
    obtain ⟨y, e1, e2⟩ := h3 j b hb
    exact ⟨y, by rw [List.getElem?_append_left (by omega)]; exact e1, by rw [upd_ne (ne_of e2 h1 (by intro z; cases z))]; exact e2⟩
  · have ej : j = ts.length := by
      have := (List.getElem?_eq_some_iff.mp hb).1
      rw [List.length_append, List.length_singleton] at this
      omega
    subst ej
    rw [List.getElem?_append_right (Nat.le_refl _), Nat.sub_self] at hb
    cases hb
    exact ⟨c, by rw [h2, List.getElem?_append_right (Nat.le_refl _), Nat.sub_self]; rfl, by rw [upd_ne (ne_of ht h1 (by intro z; cases z))]; exact ht⟩
/-- a line stays while a couple comes to its race -/
theorem Ln.couple {C : Addr} {H : Hp} {p lc : Addr} {e : Nat} {l : List Tote.Word} {pl : Int} {cs : List (Nat × Nat)} {o : HO} (L : Ln C H p e l pl) (h : CouplesAt H lc cs) : Ln C (upd H lc o) p e l pl := by
  obtain ⟨dx, lw, ws, i, hp, ⟨ts, h1, h2, h3⟩, hl, hi, hne, hb, hw⟩ := L.ex
  obtain ⟨us, g1, g2, g3⟩ := h
  have n1 : p ≠ lc := ne_of hp g1 (by intro z; cases z)
  have n2 : lw ≠ lc := by
    intro z
    subst z
    rw [h1] at g1
    have eu : ts = us := by
      have : ts.map V.ref = us.map V.ref := by injection g1 with g1; injection g1
      exact (List.map_inj_right (fun x y z => by injection z)).mp this
    subst eu
    have hpos : 0 < ws.length := List.length_pos_iff.mpr hne
    obtain ⟨t, ht⟩ : ∃ t, ts[0]? = some t := ⟨ts[0]'(by omega), List.getElem?_eq_getElem _⟩
    obtain ⟨y, x, _, e2, _⟩ := h3 0 t ht
    obtain ⟨c, _, e3⟩ := g3 0 t ht
    rw [e2] at e3
    injection e3 with e3
    injection e3 with e3
    injection e3 with _ e3
    injection e3 with e3
    cases e3
  refine ⟨dx, lw, ws, i, by rw [upd_ne n1]; exact hp, ⟨ts, by rw [upd_ne n2]; exact h1, h2, fun j t hj => ?_⟩, hl, hi, hne, hb, hw⟩
  obtain ⟨y, x, e1, e2, e3⟩ := h3 j t hj
  refine ⟨y, x, e1, by rw [upd_ne (ne_of e2 g1 (by intro z; cases z))]; exact e2, ?_⟩
  show upd H lc o x = _
  rw [upd_ne (ne_of e3 g1 (ints_refs (hw y (List.mem_of_getElem? e1))))]
  exact e3
theorem make_same {H1 H2 : Hp} {x dx : Addr} {o o' : HO} (nx : H1 x = none) (ndx : H1 dx = none) (f : Fr1 x (upd (upd H1 dx o) x o') H2) : Same H1 H2 := fun b u hb => by
  refine f b u ?_ (ne_of_none hb nx)
  rw [upd_ne (ne_of_none hb nx), upd_ne (ne_of_none hb ndx)]
  exact hb
inductive SpRace (C R D : Addr) (vs : List V) (H : Hp) (Q : VK) (E : XK) : Prop
  | mk (p : Addr) (e : Nat) (l : List Tote.Word) (pl : Int) (h0 : vs = [.ref p]) (h1 : Ln C H p e l pl) (h2 : Out E D (Tote.raceIn e l) fun r' => ∀ (H' : Hp) (q lc : Addr) (r : CM.PRace), r' = CM.toRace r → RaceAt R H' q lc r → GoodR r → H lc = none → Fr1 p H H' → EndAt C H' p e → Q (.ref q) H') : SpRace C R D vs H Q E
abbrev spRace (C R D : Addr) : Sp := fun vs H Q E => SpRace C R D vs H Q E
section
variable {P : Program} {w : World} {K : PySem.W.Frag} {mg : Str → Option Value} {base : Heap} {a : Ad}
theorem scCouple : FnScope ["line", "race", "lows", "highs", "a", "b", "couple"] ["line", "race"] (defScope sCouple) := FnScope.of (by decide +kernel)
theorem ok_couple (T : Txt K mg a) : FnOk P w K mg base (CXF P w) 6 a.fCouple a.dCouple ["line", "race"] (spCouple a.CL a.CR a.CF) := by
  refine Fun.okF T.FCouple scCouple (fun vs H Q E h => ?_) (fun cdv A outer s H vs Q E hr h => ?_)
  · obtain ⟨p, q, lc, e, l, pl, r, rfl, _⟩ := h
    rfl
  · obtain ⟨p, u, lc, e, l, pl, r, rfl, L, R, hrun, hfew, q⟩ := h
    obtain ⟨n, cs⟩ := r
    obtain ⟨dx, lw, i0, hp⟩ := L.ins
    refine ⟨_, pss_cons (ps_expr (pe_meth (pv 0) T.cCL T.mFixed (ok_fixed T) hr T.bFixed .nil passF (pa_cons pe_str pa_nil)))
      (pss_cons (ps_if (pt_cmpR op_eq (pe_callB call_len_seq (by rfl) T.z_len PySem.boot_len (pa_cons (pe_fld (pv 1) rfl) pa_nil)) (pe_gi rfl T.v_MOSTCOUPLES) (nomark _))
        (pss_one (ps_flt T.xF (ok_FI T) (hr.mono (by decide)) rfl T.gCF T.bFI (pa_cons (pe_gi rfl T.v_TOOMANY) (pa_cons (pe_fld (pv 0) rfl) pa_nil)))) pss_nil)
      (pss_cons (ps_setLc (i := 2) (own := [("couple", 6)]) rfl scCouple.nd rfl rfl rfl (pi_list (pe_fld (pv 1) rfl)) (show BlkOk ["line", "race", "lows", "highs", "a", "b", "couple"] (defScope sCouple) _ _ from blkOk_by (by decide +kernel)) (fun s H C cl fp => pg_name (i := 6) scCouple.nd rfl (Or.inl rfl)) (fun s H C cl fp => pts_nil) (fun s H C cl fp => pe_ix (r := rIxT K) ix_tup (pv 6) pe_int (fun _ _ => rfl)))
      (pss_cons (ps_setLc (i := 3) (own := [("couple", 6)]) rfl scCouple.nd rfl rfl rfl (pi_list (pe_fld (pv 1) rfl)) (show BlkOk ["line", "race", "lows", "highs", "a", "b", "couple"] (defScope sCouple) _ _ from blkOk_by (by decide +kernel)) (fun s H C cl fp => pg_name (i := 6) scCouple.nd rfl (Or.inl rfl)) (fun s H C cl fp => pts_nil) (fun s H C cl fp => pe_ix (r := rIxT K) ix_tup (pv 6) pe_int (fun _ _ => rfl)))
      (pss_cons (ps_set (i := 4) scCouple.nd rfl (Or.inl rfl) (pe_meth (pv 0) T.cCL T.mNum (ok_num T) (hr.mono (by decide)) T.bNum .nil passF (pa_cons pe_int (pa_cons (pe_fld (pv 1) rfl) pa_nil))))
      (pss_cons (ps_if (pt_cmpR op_in_seq (pv 4) (pv 3) (by with_unfolding_all rfl))
        (pss_one (ps_flt T.xF (ok_FI T) (hr.mono (by decide)) rfl T.gCF T.bFI (pa_cons (pe_gi rfl T.v_BADVALUE) (pa_cons (pe_fld (pv 0) rfl) pa_nil)))) pss_nil)
      (pss_cons (ps_set (i := 5) scCouple.nd rfl (Or.inl rfl) (pe_meth (pv 0) T.cCL T.mNum (ok_num T) (hr.mono (by decide)) T.bNum .nil passF (pa_cons (pe_op op_add (pv 4) pe_int) (pa_cons (pe_fld (pv 1) rfl) pa_nil))))
      (pss_cons (ps_if (PW.pt (pw_or (pt_cmpR op_in_seq (pv 5) (pv 2) (by with_unfolding_all rfl)) (pw_or1 (pt_cmpR op_in_seq (pv 5) (pv 3) (by with_unfolding_all rfl)))))
        (pss_one (ps_flt T.xF (ok_FI T) (hr.mono (by decide)) rfl T.gCF T.bFI (pa_cons (pe_gi rfl T.v_BADVALUE) (pa_cons (pe_fld (pv 0) rfl) pa_nil)))) pss_nil)
      (pss_one (ps_ret (pe_tup (pa_cons (pv 4) (pa_cons (pv 5) pa_nil)))))))))))), ?_⟩
    try dsimp only [L2.cxOf]
    refine ⟨_, rfl, p, dx, _, rfl, hp, ln_no, p, e, l, pl, "couple", rfl, L, g_couple, ?_⟩
    cases l with
    | nil => exact q
    | cons y m =>
      rw [CM.coupleOf_cons] at q
      by_cases hw : y.w = Tote.ascii "couple"
      case neg =>
        rw [must_no hw]
        rw [if_neg hw] at q
        exact q
      rw [must_yes hw]
      rw [if_pos hw] at q
      intro H1 y' ey L1 f1
      cases ey
      have R1 := R.keep (Keep.fr L f1)
      obtain ⟨dx1, lw1, i1, hp1⟩ := L1.ins
      obtain ⟨dq, hq⟩ := R1.ins
      obtain ⟨ts, h1, h2, h3⟩ := R1.cp
      refine ⟨_, rfl, u, a.CR, dq, _, _, rfl, hq, T.cCR, T.nCR_couples, rf_couples, lc, _, rfl, .inl (SqL.of h1), rfl, _, rfl, ?_⟩
      rw [List.length_map, h2]
      have e8 : (decide (V.int ((cs.length : Nat) : Int) = V.int 8) = true) ↔ cs.length = 8 := by
        rw [decide_eq_true_eq]
        constructor
        · intro z; injection z with z; omega
        · intro z; rw [z]; rfl
      refine ite2 (fun h => ?_) (fun h => ?_)
      · rw [if_pos (e8.mp h)] at q
        exact ⟨_, rfl, p, a.CL, dx1, _, _, rfl, hp1, T.cCL, T.nCL_place, lf_place _ _ _ _, flt_in q⟩
      rw [if_neg (fun z => h (e8.mpr z))] at q
      refine ⟨_, rfl, u, a.CR, dq, _, _, rfl, hq, T.cCR, T.nCR_couples, rf_couples, lc, rfl, ⟨_, SqL.of h1⟩, fun D hD => lc_list (K := K) (a := lc) (xs := ts.map V.ref) (fun i H' => H' = upd H1 D (.lst ((cs.take i).map fun c => V.int (c.1 : Int)))) rfl ?_ ?_ ?_⟩
      · rintro i H' _ rfl
        exact SqL.of (by rw [upd_ne (ne_of_none h1 hD)]; exact h1)
      · rintro i x H' hx rfl
        obtain ⟨t, ht, rfl⟩ : ∃ t, ts[i]? = some t ∧ V.ref t = x := by
          rw [List.getElem?_map] at hx
          exact Option.map_eq_some_iff.mp hx
        obtain ⟨c, hc, hT⟩ := h3 i t ht
        refine ⟨rfl, ?_⟩
        unfold tYes
        dsimp only
        rw [if_pos rfl]
        refine ⟨_, rfl, t, [.int c.1, .int c.2], 0, .int c.1, rfl, rfl, SqT.of (by rw [upd_ne (ne_of_none hT hD)]; exact hT), rfl, _, upd_same, ?_, ?_⟩
        · rw [List.length_map, List.length_take, sizeLine_eq]
          have := Nat.min_le_right i cs.length
          have hf : cs.length ≤ 8 := hfew
          omega
        · rw [upd_upd, List.take_add_one, hc]
          simp
      rintro H2 rfl
      rw [List.length_map, h2, List.take_length]
      have s1 : Same H1 (upd H1 D (.lst (cs.map fun c => V.int (c.1 : Int)))) := same_new hD
      refine ⟨_, rfl, u, a.CR, dq, _, _, rfl, s1 _ _ hq, T.cCR, T.nCR_couples, rf_couples, lc, rfl, ⟨_, SqL.of (s1 _ _ h1)⟩, fun D2 hD2 => lc_list (K := K) (a := lc) (xs := ts.map V.ref) (fun i H' => H' = upd (upd H1 D (.lst (cs.map fun c => V.int (c.1 : Int)))) D2 (.lst ((cs.take i).map fun c => V.int (c.2 : Int)))) rfl ?_ ?_ ?_⟩
      · rintro i H' _ rfl
        exact SqL.of (by rw [upd_ne (ne_of_none (s1 _ _ h1) hD2)]; exact s1 _ _ h1)
      · rintro i x H' hx rfl
        obtain ⟨t, ht, rfl⟩ : ∃ t, ts[i]? = some t ∧ V.ref t = x := by
          rw [List.getElem?_map] at hx
          exact Option.map_eq_some_iff.mp hx
        obtain ⟨c, hc, hT⟩ := h3 i t ht
        refine ⟨rfl, ?_⟩
        unfold tYes
        dsimp only
        rw [if_pos rfl]
        refine ⟨_, rfl, t, [.int c.1, .int c.2], 1, .int c.2, rfl, rfl, SqT.of (by rw [upd_ne (ne_of_none (s1 _ _ hT) hD2)]; exact s1 _ _ hT), rfl, _, upd_same, ?_, ?_⟩
        · rw [List.length_map, List.length_take, sizeLine_eq]
          have := Nat.min_le_right i cs.length
          have hf : cs.length ≤ 8 := hfew
          omega
        · rw [upd_upd, List.take_add_one, hc]
          simp
      rintro H3 rfl
      rw [List.length_map, h2, List.take_length]
      have s2 : Same (upd H1 D (.lst (cs.map fun c => V.int (c.1 : Int)))) (upd (upd H1 D (.lst (cs.map fun c => V.int (c.1 : Int)))) D2 (.lst (cs.map fun c => V.int (c.2 : Int)))) := same_new hD2
      have hlo := s2 _ _ (upd_same (H := H1) (a := D) (o := .lst (cs.map fun c => V.int (c.1 : Int))))
      have hhi := upd_same (H := (upd H1 D (.lst (cs.map fun c => V.int (c.1 : Int))))) (a := D2) (o := .lst (cs.map fun c => V.int (c.2 : Int)))
      generalize upd (upd H1 D (.lst (cs.map fun c => V.int (c.1 : Int)))) D2 (.lst (cs.map fun c => V.int (c.2 : Int))) = H3 at *
      have s3 := s1.trans s2
      have f3 : Fr1 p H H3 := f1.trans (Fr1.of_same s3)
      have L3 := L1.same s3
      refine ⟨_, rfl, p, dx1, _, rfl, s3 _ _ hp1, ln_no, _, rfl, u, a.CR, dq, _, _, rfl, s3 _ _ hq, T.cCR, T.nCR_runners, rf_runners, p, e, m, _, 1, n, rfl, (by have hf : n ≤ 24 := hrun; omega), L3, ?_⟩
      cases hn : Tote.number e 1 n m with
      | error f => rw [hn] at q; exact q
      | ok z =>
        rw [hn] at q
        have q1 : Out E a.CF (if (cs.any fun x => x.2 == z.1.1) = true then Except.error (⟨4, z.1.2⟩ : Tote.Fault) else
          match Tote.number e (z.1.1 + 1) n z.2 with
          | .error x => .error x
          | .ok b => if (cs.any fun x => x.1 == b.1.1 || x.2 == b.1.1) = true then .error ⟨4, b.1.2⟩ else .ok ((z.1.1, b.1.1), b.2)) _ := q
        intro H4 L4 f4
        have k4 := Keep.fr L3 f4
        obtain ⟨dx4, lw4, i4, hp4⟩ := L4.ins
        have hhi4 := k4 _ _ hhi nl_lst
        have hlo4 := k4 _ _ hlo nl_lst
        have hq4 := k4 _ _ (s3 _ _ hq) nl_rf
        refine ⟨_, rfl, _, rfl, D2, _, rfl, .inl (SqL.of hhi4), rfl, flat_nums (fun c : Nat × Nat => c.2) cs, _, rfl, ?_⟩
        refine ite2 (fun h => ?_) (fun h => ?_)
        · have h' : inV (V.int (z.1.1 : Int)) (cs.map fun c => V.int (c.2 : Int)) = true := h
          rw [in_nums (fun c : Nat × Nat => c.2)] at h'
          rw [if_pos h'] at q1
          exact ⟨_, rfl, p, a.CL, dx4, _, _, rfl, hp4, T.cCL, T.nCL_place, lf_place _ _ _ _, flt_in q1⟩
        have h' : ¬ inV (V.int (z.1.1 : Int)) (cs.map fun c => V.int (c.2 : Int)) = true := h
        rw [in_nums (fun c : Nat × Nat => c.2)] at h'
        rw [if_neg h'] at q1
        refine ⟨_, rfl, p, dx4, _, rfl, hp4, ln_no, _, rfl, _, _, rfl, rfl, _, rfl, u, a.CR, dq, _, _, rfl, hq4, T.cCR, T.nCR_runners, rf_runners, p, e, z.2, _, z.1.1 + 1, n, rfl, (by have hf : n ≤ 24 := hrun; omega), L4, ?_⟩
        cases hb : Tote.number e (z.1.1 + 1) n z.2 with
        | error f => rw [hb] at q1; exact q1
        | ok b =>
          rw [hb] at q1
          have q2 : Out E a.CF (if (cs.any fun x => x.1 == b.1.1 || x.2 == b.1.1) = true then Except.error (⟨4, b.1.2⟩ : Tote.Fault) else .ok ((z.1.1, b.1.1), b.2)) _ := q1
          rw [any_or] at q2
          intro H5 L5 f5
          have k5 := Keep.fr L4 f5
          obtain ⟨dx5, lw5, i5, hp5⟩ := L5.ins
          have hhi5 := k5 _ _ hhi4 nl_lst
          have hlo5 := k5 _ _ hlo4 nl_lst
          refine ⟨_, rfl, _, rfl, D, _, rfl, .inl (SqL.of hlo5), rfl, flat_nums (fun c : Nat × Nat => c.1) cs, _, rfl, ?_⟩
          refine ite2 (fun g => ?_) (fun g => ?_)
          · have g' : inV (V.int (b.1.1 : Int)) (cs.map fun c => V.int (c.1 : Int)) = true := g
            rw [in_nums (fun c : Nat × Nat => c.1)] at g'
            rw [g', if_pos (by rfl)] at q2
            exact iteT ⟨_, rfl, p, a.CL, dx5, _, _, rfl, hp5, T.cCL, T.nCL_place, lf_place _ _ _ _, flt_in q2⟩
          have g' : ¬ inV (V.int (b.1.1 : Int)) (cs.map fun c => V.int (c.1 : Int)) = true := g
          rw [in_nums (fun c : Nat × Nat => c.1), Bool.not_eq_true] at g'
          rw [g', Bool.false_or] at q2
          refine ⟨_, rfl, _, rfl, D2, _, rfl, .inl (SqL.of hhi5), rfl, flat_nums (fun c : Nat × Nat => c.2) cs, _, rfl, ?_⟩
          refine ite2 (fun i => ?_) (fun i => ?_)
          · have i' : inV (V.int (b.1.1 : Int)) (cs.map fun c => V.int (c.2 : Int)) = true := i
            rw [in_nums (fun c : Nat × Nat => c.2)] at i'
            rw [if_pos i'] at q2
            exact ⟨_, rfl, p, a.CL, dx5, _, _, rfl, hp5, T.cCL, T.nCL_place, lf_place _ _ _ _, flt_in q2⟩
          have i' : ¬ inV (V.int (b.1.1 : Int)) (cs.map fun c => V.int (c.2 : Int)) = true := i
          rw [in_nums (fun c : Nat × Nat => c.2)] at i'
          rw [if_neg i'] at q2
          refine ⟨_, rfl, _, rfl, (by show 2 ≤ sizeLine; decide), fun t ht => ?_⟩
          have s6 : Same H5 (upd H5 t (.tup [.int z.1.1, .int b.1.1])) := same_new ht
          exact q2 _ t _ (L5.same s6) (f3.trans (f4.trans (f5.trans (Fr1.of_same s6)))) upd_same
theorem scRace : FnScope ["line", "race"] ["line"] (defScope sRace) := FnScope.of (by decide +kernel)
theorem ok_race (T : Txt K mg a) : FnOk P w K mg base (CXF P w) 7 a.fRace a.dRace ["line"] (spRace a.CL a.CR a.CF) := by
  refine Fun.okF T.FRace scRace (fun vs H Q E h => ?_) (fun cdv A outer s H vs Q E hr h => ?_)
  · obtain ⟨p, e, l, pl, rfl, _⟩ := h
    rfl
  · obtain ⟨p, e, l, pl, rfl, L, q⟩ := h
    obtain ⟨dx, lw, i0, hp⟩ := L.ins
    refine ⟨_, pss_cons (ps_set (i := 1) scRace.nd rfl (Or.inl rfl) (pe_make T.kCR (ok_RI T) (hr.mono (by decide)) rfl T.gCR T.bRI .nil pass0 (pa_cons (pe_meth (pv 0) T.cCL T.mNum (ok_num T) (hr.mono (by decide)) T.bNum .nil passF (pa_cons pe_int (pa_cons pe_int pa_nil))) pa_nil)))
      (pss_cons (ps_while PassesOwn.leaving (pt_val (pe_meth0 (pv 0) T.cCL T.mAny (ok_any T) (hr.mono (by decide)) T.bAny .nil pass0))
        (pss_one (ps_expr (pe_bm PySem.F.plainAttrs_list PySem.F.slot_list_append PySem.F.type_list_append mt_append (pe_fld (pv 1) rfl) (pa_cons (pe_call (ok_couple T) hr rfl T.gCouple T.FCouple.kp T.bCouple .nil passF (pa_cons (pv 0) (pa_cons (pv 1) pa_nil))) pa_nil)))))
      (pss_one (ps_ret (pv 1)))), ?_⟩
    try dsimp only [L2.cxOf]
    have q0 : Out E a.CF (Tote.number e 2 24 l >>= fun n => Tote.couplesIn e n.1.1 8 [] n.2 >>= fun c => .ok (⟨n.1.1, c⟩ : Tote.Race)) _ := q
    refine ⟨_, rfl, p, dx, _, rfl, hp, ln_no, p, e, l, pl, 2, 24, rfl, by decide, L, (Out.bind q0).mono fun n hn qn => ?_⟩
    intro H1 L1 f1 u du nu ndu neu
    have hnum := CM.number_ok hn
    refine ⟨u, du, _, rfl, upd_same, fun H2 lc hlc hu hl f2 => ⟨rfl, ?_⟩⟩
    have sm := make_same nu ndu f2
    obtain ⟨hlc1, hlc2⟩ := upd_none hlc
    obtain ⟨hlc3, _⟩ := upd_none hlc1
    have hlc0 : H lc = none := by
      cases hz : H lc with
      | none => rfl
      | some o =>
        by_cases hpz : lc = p
        · subst hpz
          obtain ⟨dx1, lw1, i1, hp1⟩ := L1.ins
          rw [hlc3] at hp1
          cases hp1
        · have := f1 _ _ hz hpz
          rw [hlc3] at this
          cases this
    refine ⟨fun m σ H3 => ∃ (cs : List (Nat × Nat)) (l' : List Tote.Word) (pl' : Int), σ = [some (.ref p), some (.ref u)] ∧ m = l'.length ∧ Ln a.CL H3 p e l' pl' ∧ RaceAt a.CR H3 u lc (n.1.1, cs) ∧ CM.COk n.1.1 cs ∧ cs.length ≤ 8 ∧ Fr1 p H H3 ∧
      Out E a.CF (Tote.couplesIn e n.1.1 (8 - cs.length) (CM.cSort cs) l') fun c => ∀ (H' : Hp) (q lc : Addr) (r : CM.PRace), (⟨n.1.1, c⟩ : Tote.Race) = CM.toRace r → RaceAt a.CR H' q lc r → GoodR r → H lc = none → Fr1 p H H' → EndAt a.CL H' p e → Q (.ref q) H',
      ⟨_, [], n.2, _, rfl, rfl, L1.same sm, ⟨⟨du, hu⟩, ⟨[], hl, rfl, fun j t h => by simp at h⟩⟩, CM.COk.nil _, Nat.zero_le _, f1.trans (Fr1.of_same sm), (Out.bind qn).mono fun c _ z => z⟩, ?_⟩
    rintro m σ H3 ⟨cs, l', pl', rfl, rfl, L3, R3, hC, hfew, f3, q3⟩
    obtain ⟨dx3, lw3, i3, hp3⟩ := L3.ins
    obtain ⟨dq, hq⟩ := R3.ins
    obtain ⟨ts, h1, h2, h3⟩ := id R3.cp
    refine ⟨_, rfl, p, dx3, _, rfl, hp3, ln_no, p, e, l', pl', rfl, L3, _, rfl, ?_⟩
    cases l' with
    | nil =>
      refine iteF ⟨_, rfl, ?_⟩
      rw [CM.couples_nil] at q3
      exact q3 H3 u lc (n.1.1, cs) rfl R3 ⟨hC, hfew, hnum.2.1⟩ hlc0 f3 L3.endAt
    | cons y r =>
      refine iteT ⟨fun σ' H' => ∃ m', m' < (y :: r).length ∧ _, fun σ' H' z => z, ?_⟩
      refine ⟨_, rfl, u, a.CR, dq, _, _, rfl, hq, T.cCR, T.nCR_couples, rf_couples, .inl ⟨rfl, _, SqL.of h1⟩, _, rfl, _, rfl, p, u, lc, e, y :: r, pl', (n.1.1, cs), rfl, L3, R3, hnum.2.1, hfew, ?_⟩
      rw [CM.couples_step hfew (by simp)] at q3
      show Out E a.CF (CM.coupleOf e n.1.1 cs (y :: r)) _
      cases hc : CM.coupleOf e n.1.1 cs (y :: r) with
      | error f => rw [hc] at q3; exact q3
      | ok z =>
        rw [hc] at q3
        obtain ⟨c1, c2, c3⟩ := CM.coupleOf_ok hc hC
        intro H4 t pl4 L4 f4 ht
        have k4 := Keep.fr L3 f4
        have g1 := k4 _ _ h1 nl_lst
        have g3 : ∀ (j : Nat) (t : Addr), ts[j]? = some t → ∃ c : Nat × Nat, cs[j]? = some c ∧ H4 t = some (.tup [.int c.1, .int c.2]) := fun j t hj => by
          obtain ⟨c, e1, e2⟩ := h3 j t hj
          exact ⟨c, e1, k4 _ _ e2 nl_tup⟩
        have h2' : ts.length = cs.length := h2
        refine ⟨lc, _, _, rfl, rfl, g1, by rw [List.length_map, sizeLine_eq]; omega, z.2.length, c2, cs ++ [z.1], z.2, pl4, rfl, rfl, L4.couple ⟨ts, g1, h2, g3⟩, ⟨⟨dq, ?_⟩, CouplesAt.push g1 h2 g3 ht⟩, c1, by rw [List.length_append, List.length_singleton]; omega, ?_, q3⟩
        · rw [upd_ne (ne_of (k4 _ _ hq nl_rf) g1 (by intro z; cases z))]
          exact k4 _ _ hq nl_rf
        · intro b o hb hn
          rw [upd_ne (ne_of_none hb hlc0)]
          exact (f3.trans f4) b o hb hn
end
end RC
set_option maxRecDepth 100000
set_option maxHeartbeats 4000000
set_option linter.all false
set_option Elab.async false
namespace RC
open PySem L2

theorem find_idx {α : Type} (g : α → String) (p : α → Bool) (p' : String → Bool) (hp : ∀ z, p z = p' (g z)) : ∀ l : List α, (l.find? p = none ∧ (l.map g).findIdx? p' = none) ∨ ∃ i z, l[i]? = some z ∧ l.find? p = some z ∧ (l.map g).findIdx? p' = some i
  | [] => .inl ⟨rfl, rfl⟩
  | z :: l => by
    by_cases h : p z = true
    · refine .inr ⟨0, z, rfl, by rw [List.find?_cons, h], ?_⟩
      rw [List.map_cons, List.findIdx?_cons, ← hp, h]
      rfl
    · rw [Bool.not_eq_true] at h
      rcases find_idx g p p' hp l with ⟨e1, e2⟩ | ⟨i, y, e0, e1, e2⟩
      · refine .inl ⟨by rw [List.find?_cons, h]; exact e1, ?_⟩
        rw [List.map_cons, List.findIdx?_cons, ← hp, h, e2]
        rfl
      · refine .inr ⟨i + 1, y, by simpa using e0, by rw [List.find?_cons, h]; exact e1, ?_⟩
        rw [List.map_cons, List.findIdx?_cons, ← hp, h, e2]
        rfl
theorem oneOf_choice {α : Type} (e : Nat) (l : List (α × String)) (m : List Tote.Word) : (∃ f, Tote.oneOf e l m = .error f ∧ choiceOf e (l.map (·.2)) m = .error f) ∨ ∃ (i : Nat) (z : α × String) (k : Nat) (r : List Tote.Word), l[i]? = some z ∧ Tote.oneOf e l m = .ok ((z.1, k), r) ∧ choiceOf e (l.map (·.2)) m = .ok ((i, k), r) := by
  cases m with
  | nil => exact .inl ⟨_, rfl, rfl⟩
  | cons y r =>
    have e1 : Tote.oneOf e l (y :: r) = match l.find? fun (z : α × String) => Tote.ascii z.2 == y.w with
      | none => .error ⟨3, y.at_⟩
      | some z => .ok ((z.1, y.at_), r) := rfl
    have e2 : choiceOf e (l.map (·.2)) (y :: r) = match (l.map (·.2)).findIdx? (fun s => decide (Tote.ascii s = y.w)) with
      | none => .error ⟨3, y.at_⟩
      | some n => .ok ((n, y.at_), r) := rfl
    rw [e1, e2]
    rcases find_idx (fun z : α × String => z.2) (fun z => Tote.ascii z.2 == y.w) (fun s => decide (Tote.ascii s = y.w)) (fun z => by rw [Bool.beq_eq_decide_eq]) l with ⟨h1, h2⟩ | ⟨i, z, h0, h1, h2⟩
    · exact .inl ⟨_, by rw [h1], by rw [h2]⟩
    · exact .inr ⟨i, z, y.at_, r, h0, by rw [h1], by rw [h2]⟩
theorem kind_at {i : Nat} {z : Tote.Kind × String} (h : Tote.KINDS[i]? = some z) : i = kindNo z.1 := by
  rcases i with _ | _ | _ | _ | i
  all_goals first | (cases h; rfl) | (simp [Tote.KINDS] at h)
theorem none_at {i : Nat} {z : Tote.None_ × String} (h : Tote.NONES[i]? = some z) : i = noneNo z.1 := by
  rcases i with _ | _ | _ | i
  all_goals first | (cases h; rfl) | (simp [Tote.NONES] at h)
theorem none_at2 {i : Nat} {z : Tote.None_ × String} (h : (Tote.NONES.take 2)[i]? = some z) : i = noneNo z.1 := by
  rcases i with _ | _ | i
  all_goals first | (cases h; rfl) | (simp [Tote.NONES] at h)
theorem Out.rule {β : Type} {E : XK} {D : Addr} {e lo hi : Nat} {s : String} {l : List Tote.Word} {g : (Nat × Nat) × List Tote.Word → Except Tote.Fault β} {k : β → Prop} (h : Out E D (Tote.must e s l >>= fun m => Tote.number e lo hi m >>= g) k) :
    Out E D (Tote.must e s l >>= fun m => Tote.number e lo hi m) fun r => Out E D (g r) k := by
  cases hm : Tote.must e s l with
  | error f => rw [hm] at h; exact h
  | ok m =>
    rw [hm] at h
    exact Out.bind (r := Tote.number e lo hi m) h
theorem rule_ok {e lo hi : Nat} {s : String} {l : List Tote.Word} {r : (Nat × Nat) × List Tote.Word} (h : (Tote.must e s l >>= fun m => Tote.number e lo hi m) = .ok r) : lo ≤ r.1.1 ∧ r.1.1 ≤ hi := by
  cases hm : Tote.must e s l with
  | error f => rw [hm] at h; cases h
  | ok m =>
    rw [hm] at h
    have := CM.number_ok (show Tote.number e lo hi m = .ok r from h)
    exact ⟨this.1, this.2.1⟩
theorem Out.holds {β : Type} {E : XK} {D : Addr} {b : Bool} {j p : Nat} {g : Unit → Except Tote.Fault β} {k : β → Prop} (h : Out E D (Tote.holds b j p >>= g) k) : (b = true → Out E D (g ()) k) ∧ (b = false → Flt E D j p) := by
  cases b with
  | true => exact ⟨fun _ => h, fun z => (by cases z)⟩
  | false => exact ⟨fun z => (by cases z), fun _ => h⟩
theorem g_from : GoodS "from" := ⟨by decide +kernel, by decide +kernel⟩
theorem g_take : GoodS "take" := ⟨by decide +kernel, by decide +kernel⟩
theorem g_break : GoodS "break" := ⟨by decide +kernel, by decide +kernel⟩
theorem g_least : GoodS "least" := ⟨by decide +kernel, by decide +kernel⟩
theorem g_unit : GoodS "unit" := ⟨by decide +kernel, by decide +kernel⟩
theorem g_none : GoodS "none" := ⟨by decide +kernel, by decide +kernel⟩
theorem g_kinds : ∀ s ∈ ["place", "order", "any", "legs"], GoodS s := by
  intro s hs
  simp only [List.mem_cons, List.not_mem_nil, or_false] at hs
  rcases hs with rfl | rfl | rfl | rfl
  all_goals exact ⟨by decide +kernel, by decide +kernel⟩
theorem g_nones : ∀ s ∈ ["refund", "carry", "fewer"], GoodS s := by
  intro s hs
  simp only [List.mem_cons, List.not_mem_nil, or_false] at hs
  rcases hs with rfl | rfl | rfl
  all_goals exact ⟨by decide +kernel, by decide +kernel⟩
theorem g_nones2 : ∀ s ∈ ["refund", "carry"], GoodS s := fun s hs => g_nones s (List.mem_append_left ["fewer"] hs)
theorem hk3 : decide (V.int (kindNo Tote.Kind.legs : Int) = V.int 3) = true := by decide
theorem hk0 : decide (V.int (kindNo Tote.Kind.place : Int) = V.int 0) = true := by decide
theorem ri_no {n : Int} {lc : Addr} : (rf n lc).lookup ("interests" : Str) = none := lk_no (show ¬ (("interests" : Str) ∈ (["runners", "couples"] : List Str)) from by decide +kernel)
theorem at_least (z : Tote.Kind) : atI [V.int 1, V.int 2, V.int 2, V.int 2] (kindNo z : Int) = some (V.int (Tote.leastK z : Int)) := by cases z <;> rfl
theorem at_most (z : Tote.Kind) : atI [V.int 4, V.int 4, V.int 3, V.int 6] (kindNo z : Int) = some (V.int (Tote.mostK z : Int)) := by cases z <;> rfl
inductive SpPName (a : Ad) (vs : List V) (H : Hp) (Q : VK) (E : XK) : Prop
  | mk (p c dn lr lp : Addr) (qs ys : List Addr) (n : Tote.Bytes) (rs : List CM.PRace) (ps : List Tote.Pool) (e : Nat) (l : List Tote.Word) (pl : Int) (h0 : vs = [.ref p, .ref c]) (h1 : Ln a.CL H p e l pl) (h2 : CardIn a H c dn lr lp qs ys n rs ps) (h3 : Out E a.CF (Tote.newName e (ps.map fun (p : Tote.Pool) => p.name) l) fun y => ∀ (H' : Hp) (x : Addr) (pl' : Int), Ln a.CL H' p e y.2 pl' → Fr1 p H H' → WordAt H' x y.1 → y.1 ≠ [] → y.1.length ≤ 12 → Q (.ref x) H') : SpPName a vs H Q E
abbrev spPName (a : Ad) : Sp := fun vs H Q E => SpPName a vs H Q E
inductive SpPool (a : Ad) (vs : List V) (H : Hp) (Q : VK) (E : XK) : Prop
  | mk (p c dn lr lp : Addr) (qs ys : List Addr) (n : Tote.Bytes) (rs : List CM.PRace) (ps : List Tote.Pool) (e : Nat) (l : List Tote.Word) (pl : Int) (h0 : vs = [.ref p, .ref c]) (h1 : Ln a.CL H p e l pl) (h2 : CardIn a H c dn lr lp qs ys n rs ps) (h3 : Out E a.CF (Tote.poolIn e ⟨n, rs.map CM.toRace, ps⟩ l) fun o => ∀ (H' : Hp) (y x : Addr), PoolAt a.CP H' y x o → o.name ≠ [] → GoodP o → Fr1 p H H' → EndAt a.CL H' p e → Q (.ref y) H') : SpPool a vs H Q E
abbrev spPool (a : Ad) : Sp := fun vs H Q E => SpPool a vs H Q E
section
variable {P : Program} {w : World} {K : PySem.W.Frag} {mg : Str → Option Value} {base : Heap} {a : Ad}
theorem scPName : FnScope ["line", "card", "name", "pool"] ["line", "card"] (defScope sPName) := FnScope.of (by decide +kernel)
theorem ok_pname (T : Txt K mg a) : FnOk P w K mg base (CXF P w) 5 a.fPName a.dPName ["line", "card"] (spPName a) := by
  refine Fun.okF T.FPName scPName (fun vs H Q E h => ?_) (fun cdv A outer s H vs Q E hr h => ?_)
  · obtain ⟨p, c, dn, lr, lp, qs, ys, nm, rs, ps, e, l, pl, rfl, _⟩ := h
    rfl
  · obtain ⟨p, c, dn, lr, lp, qs, ys, nm, rs, ps, e, l, pl, rfl, L, hC, q⟩ := h
    obtain ⟨dx, lw, i0, hp⟩ := L.ins
    refine ⟨_, pss_cons (ps_set (i := 2) scPName.nd rfl (Or.inl rfl) (pe_meth0 (pv 0) T.cCL T.mTName (ok_tname T) hr T.bTName .nil passF))
      (pss_cons (ps_for PassesOwn.leaving rfl (pi_list (pe_fld (pv 1) rfl)) (pg_name (i := 3) scPName.nd rfl (Or.inl rfl))
        (pss_one (ps_if (pt_cmpR (op_eqI hr.units) (pe_fld (pv 3) rfl) (pv 2) (nomark _))
          (pss_one (ps_flt T.xF (ok_FI T) (hr.mono (by decide)) rfl T.gCF T.bFI (pa_cons (pe_gi rfl T.v_NAMEISTHERE) (pa_cons (pe_fld (pv 0) rfl) pa_nil)))) pss_nil)))
      (pss_one (ps_ret (pv 2)))), ?_⟩
    try dsimp only [L2.cxOf]
    refine ⟨_, rfl, p, dx, _, rfl, hp, ln_no, p, e, l, pl, rfl, L, ?_⟩
    have hnm : ∀ z, nameOf e l = .ok z → z.1.w ≠ [] := by
      intro z hz
      cases l with
      | nil => cases hz
      | cons y r =>
        have hz' : (if Tote.isName y.w = false then Except.error (⟨4, y.at_⟩ : Tote.Fault) else .ok (y, r)) = .ok z := hz
        split at hz'
        · cases hz'
        · cases hz'
          exact L.words _ (by simp)
    rw [new_name] at q
    cases hn : nameOf e l with
    | error f => rw [hn] at q; exact q
    | ok z =>
      rw [hn] at q
      have q1 : Out E a.CF (if (ps.map fun (p : Tote.Pool) => p.name).contains z.1.w = true then Except.error (⟨5, z.1.at_⟩ : Tote.Fault) else .ok (z.1.w, z.2)) _ := q
      intro H1 x L1 f1 hx
      have C1 := hC.keep (Keep.fr L f1)
      obtain ⟨dx1, lw1, i1, hp1⟩ := L1.ins
      obtain ⟨dc, hc⟩ := C1.ins
      refine ⟨_, rfl, c, a.CC, dc, _, _, rfl, hc, T.cCC, T.nCC_pools, cf_pools, lp, rfl, ⟨_, SqL.of C1.hlp⟩, for_list (K := K) (a := lp) (xs := ys.map V.ref) (fun i σ H2 => ∃ v : Option V, σ = [some (.ref p), some (.ref c), some (.ref x), v] ∧ H2 = H1 ∧ ∀ j (o : Tote.Pool), j < i → ps[j]? = some o → o.name ≠ z.1.w)
        ⟨none, rfl, rfl, fun j o hj => absurd hj (Nat.not_lt_zero _)⟩ (fun i σ H2 _ ⟨_, _, e, _⟩ => by rw [e]; exact SqL.of C1.hlp) ?_ ?_⟩
      · rintro i v σ H2 hi ⟨v3, rfl, rfl, hno⟩
        obtain ⟨y, hy, rfl⟩ : ∃ y, ys[i]? = some y ∧ V.ref y = v := by
          rw [List.getElem?_map] at hi
          exact Option.map_eq_some_iff.mp hi
        obtain ⟨xn, o, ho, ⟨⟨dy, hyi⟩, hxn⟩, _⟩ := C1.pool i y hy
        refine ⟨_, rfl, y, a.CP, dy, _, _, rfl, hyi, T.cCP, T.nCP_name, pf_name, _, rfl, xn, x, CM.I8 o.name, CM.I8 z.1.w, rfl, rfl, SqL.of hxn, SqL.of hx, _, rfl, ?_⟩
        refine ite2 (fun h => ?_) (fun h => ?_)
        · have he : o.name = z.1.w := CM.I8_inj (of_decide_eq_true h)
          have hin : (ps.map fun (p : Tote.Pool) => p.name).contains z.1.w = true := by
            rw [List.contains_iff_mem, ← he]
            exact List.mem_map.mpr ⟨o, List.mem_of_getElem? ho, rfl⟩
          rw [if_pos hin] at q1
          exact ⟨_, rfl, p, a.CL, dx1, _, _, rfl, hp1, T.cCL, T.nCL_place, lf_place _ _ _ _, flt_in q1⟩
        · refine ⟨_, rfl, rfl, fun j o' hj ho' => ?_⟩
          by_cases ej : j = i
          · subst ej
            rw [ho] at ho'
            cases ho'
            exact fun z => h (decide_eq_true (by rw [z]))
          · exact hno j o' (by omega) ho'
      · rintro σ H2 ⟨v3, rfl, rfl, hno⟩
        have hin : ¬ (ps.map fun (p : Tote.Pool) => p.name).contains z.1.w = true := by
          rw [List.contains_iff_mem, List.mem_map]
          rintro ⟨o, ho, he⟩
          obtain ⟨j, hj, ej⟩ := List.mem_iff_getElem.mp ho
          exact hno j o (by rw [List.length_map, C1.lenp]; exact hj) (by rw [List.getElem?_eq_getElem hj, ej]) he
        rw [if_neg hin] at q1
        exact ⟨_, rfl, q1 _ x _ L1 f1 hx (hnm z hn) (nameOf_ok hn)⟩

/-! ### read_pool in pieces -/
def tailZ (e : Nat) (nm : Tote.Bytes) (kd : Tote.Kind) (k r t b m u : Nat) (l : List Tote.Word) : Except Tote.Fault Tote.Pool := Tote.must e "none" l >>= fun l => Tote.oneOf e (if kd = .place then Tote.NONES.take 2 else Tote.NONES) l >>= fun z => Tote.closed z.2 >>= fun _ => .ok ⟨nm, kd, k, r, z.1.1, t, b, m, u⟩
def tailT (e : Nat) (nm : Tote.Bytes) (kd : Tote.Kind) (k r : Nat) (l : List Tote.Word) : Except Tote.Fault Tote.Pool := Tote.must e "take" l >>= fun l => Tote.number e 0 400 l >>= fun t => Tote.must e "break" t.2 >>= fun l => Tote.number e 1 1000 l >>= fun b => Tote.must e "least" b.2 >>= fun l => Tote.number e 0 20000 l >>= fun m =>
  Tote.must e "unit" m.2 >>= fun l => Tote.number e 1 10000 l >>= fun u => Tote.holds (m.1.1 == 0 || Tote.inside u.1.1 (2 * u.1.1) m.1.1) 4 u.1.2 >>= fun _ => tailZ e nm kd k r t.1.1 b.1.1 m.1.1 u.1.1 u.2
def PoolPost (a : Ad) (p : Addr) (e : Nat) (H : Hp) (Q : VK) (o : Tote.Pool) : Prop := ∀ (H' : Hp) (y x : Addr), PoolAt a.CP H' y x o → o.name ≠ [] → GoodP o → Fr1 p H H' → EndAt a.CL H' p e → Q (.ref y) H'
abbrev NPool : List Str := ["line", "card", "name", "kind", "k", "k_place", "race", "take", "brk", "least", "unit", "none"]
theorem scPool : FnScope NPool ["line", "card"] (defScope sPool) := FnScope.of (by decide +kernel)
variable {cdv : Value} {A : Around} {outer : List Env} {s : Shared} {H : Hp} {E : XK}
abbrev CPool (P : Program) (w : World) (K : PySem.W.Frag) (mg : Str → Option Value) (base : Heap) (a : Ad) (cdv : Value) (A : Around) (outer : List Env) (s : Shared) (H : Hp) (E : XK) : Cx := cxOf (CXF P w) P w K mg base NPool "read_pool" (defScope sPool) a.fPool cdv A outer s H E
/-- what is known from the name on -/
structure Pre (a : Ad) (p : Addr) (e : Nat) (x : Addr) (nm : Tote.Bytes) (H H1 H2 : Hp) : Prop where
  ln : ∃ l pl, Ln a.CL H1 p e l pl
  hx : WordAt H1 x nm
  ne : nm ≠ []
  le : nm.length ≤ 12
  f : Fr1 p H H1
  g : Fr1 p H1 H2
theorem Pre.next {a : Ad} {p : Addr} {e : Nat} {x : Addr} {nm : Tote.Bytes} {H H1 H2 H3 : Hp} (h : Pre a p e x nm H H1 H2) (f : Fr1 p H2 H3) : Pre a p e x nm H H1 H3 := { h with g := h.g.trans f }
theorem pool_fin (T : Txt K mg a) (hr : Room 6 (A.deeper (PyProof.Rows.envOfC "read_pool" (defScope sPool) s.heap.objs.size a.fPool cdv))) : ∃ t, PSs (CPool P w K mg base a cdv A outer s H E) ((defBody sPool).drop 13) t ∧
    ∀ (D : Ends) (p c x : Addr) (e : Nat) (nm : Tote.Bytes) (kd : Tote.Kind) (k r t' b m u : Nat) (zn : Tote.None_) (kp : Int) (H1 H2 : Hp) (l : List Tote.Word) (pl : Int), Pre a p e x nm H H1 H2 → Ln a.CL H2 p e l pl → GoodP ⟨nm, kd, k, r, zn, t', b, m, u⟩ →
      Out E a.CF (Tote.closed l >>= fun _ => .ok (⟨nm, kd, k, r, zn, t', b, m, u⟩ : Tote.Pool)) (PoolPost a p e H D.rt) →
      t D [some (.ref p), some (.ref c), some (.ref x), some (.int (kindNo kd)), some (.int k), some (.int kp), some (.int r), some (.int t'), some (.int b), some (.int m), some (.int u), some (.int (noneNo zn))] H2 := by
  refine ⟨_, pss_cons (ps_expr (pe_meth0 (pv 0) T.cCL T.mFin (ok_fin T) (hr.mono (by decide)) T.bFin .nil passF))
      (pss_one (ps_ret (pe_make T.kCP (ok_PI T) (hr.mono (by decide)) rfl T.gCP T.bPI .nil pass0 (pa_cons (pv 2) (pa_cons (pv 3) (pa_cons (pv 4) (pa_cons (pv 6) (pa_cons (pv 7) (pa_cons (pv 8) (pa_cons (pv 9) (pa_cons (pv 10) (pa_cons (pv 11) pa_nil)))))))))))), ?_⟩
  try dsimp only [L2.cxOf]
  intro D p c x e nm kd k r t' b m u zn kp H1 H2 l pl pr L gp q
  obtain ⟨dx, lw, i, hp⟩ := L.ins
  refine ⟨_, rfl, p, dx, _, rfl, hp, ln_no, p, e, l, _, rfl, L, (Out.bind q).mono fun _ _ qend => ?_⟩
  refine ⟨_, rfl, _, rfl, _, rfl, _, rfl, _, rfl, _, rfl, _, rfl, _, rfl, _, rfl, fun y dy ny ndy ney => ?_⟩
  refine ⟨y, dy, x, _, _, _, _, _, _, _, _, rfl, upd_same, rfl, ?_⟩
  rw [upd_upd]
  have s1 : Same H2 (upd H2 dy (.own y)) := same_new ndy
  have hy1 : upd H2 dy (.own y) y = none := by rw [upd_ne ney.symm]; exact ny
  have s3 := s1.trans (same_new (o := .ins a.CP dy (pf x (kindNo kd) k r t' b m u (noneNo zn))) hy1)
  obtain ⟨l1, pl1, L1⟩ := pr.ln
  have qe : PoolPost a p e H D.rt ⟨nm, kd, k, r, zn, t', b, m, u⟩ := qend
  exact qe _ y x ⟨⟨dy, upd_same⟩, s3 _ _ (Keep.fr L1 pr.g _ _ pr.hx nl_lst)⟩ pr.ne gp (pr.f.trans (pr.g.trans (Fr1.of_same s3))) (L.same s3).endAt
theorem pool_none (T : Txt K mg a) (hr : Room 6 (A.deeper (PyProof.Rows.envOfC "read_pool" (defScope sPool) s.heap.objs.size a.fPool cdv))) : ∃ t, PSs (CPool P w K mg base a cdv A outer s H E) ((defBody sPool).drop 11) t ∧
    ∀ (D : Ends) (p c x : Addr) (e : Nat) (nm : Tote.Bytes) (kd : Tote.Kind) (k r t' b m u : Nat) (kp : Int) (H1 H2 : Hp) (l : List Tote.Word) (pl : Int), Pre a p e x nm H H1 H2 → Ln a.CL H2 p e l pl → (∀ zn, GoodP ⟨nm, kd, k, r, zn, t', b, m, u⟩) →
      Out E a.CF (tailZ e nm kd k r t' b m u l) (PoolPost a p e H D.rt) →
      t D [some (.ref p), some (.ref c), some (.ref x), some (.int (kindNo kd)), some (.int k), some (.int kp), some (.int r), some (.int t'), some (.int b), some (.int m), some (.int u), none] H2 := by
  obtain ⟨t2, h2, q2⟩ := pool_fin (P := P) (w := w) (base := base) (cdv := cdv) (A := A) (outer := outer) (s := s) (H := H) (E := E) T hr
  refine ⟨_, pss_cons (ps_expr (pe_meth (pv 0) T.cCL T.mFixed (ok_fixed T) (hr.mono (by decide)) T.bFixed .nil passF (pa_cons pe_str pa_nil)))
      (pss_cons (ps_set (i := 11) scPool.nd rfl (Or.inl rfl) (pe_meth (pv 0) T.cCL T.mChoice (ok_choice T) (hr.mono (by decide)) T.bChoice .nil passF (pa_cons (pe_ifExp (pt_cmpR op_eq (pv 3) (pe_gi rfl T.v_PLACE) (nomark _)) (pe_gr rfl T.g_NONESOFPLACE) (pe_gr rfl T.g_NONES)) pa_nil))) h2), ?_⟩
  try dsimp only [L2.cxOf]
  intro D p c x e nm kd k r t' b m u kp H1 H2 l pl pr L gp q
  obtain ⟨dx, lw, i, hp⟩ := L.ins
  refine ⟨_, rfl, p, dx, _, rfl, hp, ln_no, p, e, l, _, "none", rfl, L, g_none, (Out.bind q).mono fun m9 _ qm2 => ?_⟩
  intro H9 y9 _ L9 f9
  obtain ⟨dx9, lw9, i9, hp9⟩ := L9.ins
  have qm3 := Out.bind qm2
  refine ⟨_, rfl, p, dx9, _, rfl, hp9, ln_no, _, rfl, rfl, _, rfl, ?_⟩
  by_cases hpl : kd = .place
  · refine ite2 (fun _ => ?_) (fun z => absurd (by rw [hpl]; exact hk0) z)
    refine ⟨p, a.hNONESOFPLACE, e, m9, _, ["refund", "carry"], rfl, L9, T.t_NONESOFPLACE _, g_nones2, ?_⟩
    rw [if_pos hpl] at qm3
    rcases oneOf_choice e (Tote.NONES.take 2) m9 with ⟨f, e1, e2⟩ | ⟨i, z, zp, r10, hz, e1, e2⟩
    · rw [e1] at qm3
      rw [show choiceOf e ["refund", "carry"] m9 = .error f from e2]
      exact qm3
    rw [e1] at qm3
    rw [show choiceOf e ["refund", "carry"] m9 = .ok ((i, zp), r10) from e2]
    obtain ⟨zn, zs⟩ := z
    have hzi : i = noneNo zn := none_at2 hz
    subst hzi
    intro H10 L10 f10
    exact q2 D p c x e nm kd k r t' b m u zn kp H1 H10 r10 _ ((pr.next f9).next f10) L10 (gp zn) qm3
  · have hpn : ¬ (decide (V.int (kindNo kd : Int) = V.int 0) = true) := by
      cases kd <;> first | decide | exact absurd rfl hpl
    refine ite2 (fun z => absurd z hpn) (fun _ => ?_)
    refine ⟨p, a.hNONES, e, m9, _, ["refund", "carry", "fewer"], rfl, L9, T.t_NONES _, g_nones, ?_⟩
    rw [if_neg hpl] at qm3
    rcases oneOf_choice e Tote.NONES m9 with ⟨f, e1, e2⟩ | ⟨i, z, zp, r10, hz, e1, e2⟩
    · rw [e1] at qm3
      rw [show choiceOf e ["refund", "carry", "fewer"] m9 = .error f from e2]
      exact qm3
    rw [e1] at qm3
    rw [show choiceOf e ["refund", "carry", "fewer"] m9 = .ok ((i, zp), r10) from e2]
    obtain ⟨zn, zs⟩ := z
    have hzi : i = noneNo zn := none_at hz
    subst hzi
    intro H10 L10 f10
    exact q2 D p c x e nm kd k r t' b m u zn kp H1 H10 r10 _ ((pr.next f9).next f10) L10 (gp zn) qm3
theorem pool_least (T : Txt K mg a) (hr : Room 6 (A.deeper (PyProof.Rows.envOfC "read_pool" (defScope sPool) s.heap.objs.size a.fPool cdv))) : ∃ t, PSs (CPool P w K mg base a cdv A outer s H E) ((defBody sPool).drop 10) t ∧
    ∀ (D : Ends) (p c x : Addr) (e : Nat) (nm : Tote.Bytes) (kd : Tote.Kind) (k r t' b m u : Nat) (kp : Int) (H1 H2 : Hp) (l : List Tote.Word) (pl : Nat), Pre a p e x nm H H1 H2 → Ln a.CL H2 p e l pl → (∀ zn, GoodP ⟨nm, kd, k, r, zn, t', b, m, u⟩) →
      Out E a.CF (Tote.holds (m == 0 || Tote.inside u (2 * u) m) 4 pl >>= fun _ => tailZ e nm kd k r t' b m u l) (PoolPost a p e H D.rt) →
      t D [some (.ref p), some (.ref c), some (.ref x), some (.int (kindNo kd)), some (.int k), some (.int kp), some (.int r), some (.int t'), some (.int b), some (.int m), some (.int u), none] H2 := by
  obtain ⟨t2, h2, q2⟩ := pool_none (P := P) (w := w) (base := base) (cdv := cdv) (A := A) (outer := outer) (s := s) (H := H) (E := E) T hr
  refine ⟨_, pss_cons (ps_if (PW.pt (pw_and (pt_cmpR op_ne (pv 9) pe_int (nomark _)) (pw_and1 (PW.pt (pw_or (pt_cmpR op_lt (pv 9) (pv 10) (nomark _)) (pw_or1 (pt_cmpR op_gt (pv 9) (pe_op op_mul pe_int (pv 10)) (nomark _))))))))
        (pss_one (ps_flt T.xF (ok_FI T) (hr.mono (by decide)) rfl T.gCF T.bFI (pa_cons (pe_gi rfl T.v_BADVALUE) (pa_cons (pe_fld (pv 0) rfl) pa_nil)))) pss_nil) h2, ?_⟩
  try dsimp only [L2.cxOf]
  intro D p c x e nm kd k r t' b m u kp H1 H2 l pl pr L gp q
  obtain ⟨dx8, lw, i, hp8⟩ := L.ins
  obtain ⟨qy, qn'⟩ := Out.holds q
  refine ⟨_, rfl, rfl, _, rfl, ?_⟩
  by_cases m0 : m = 0
  · have e0 : ¬ ((!decide (V.int (m : Int) = V.int 0)) = true) := by rw [m0]; decide
    refine ite2 (fun z => absurd z e0) (fun _ => iteF ?_)
    exact q2 D p c x e nm kd k r t' b m u kp H1 H2 l _ pr L gp (qy (by rw [m0]; rfl))
  have e0 : (!decide (V.int (m : Int) = V.int 0)) = true := by rw [decide_eq_false (by intro z; injection z with z; omega)]; rfl
  refine ite2 (fun _ => ?_) (fun z => absurd e0 z)
  have m0' : (m == 0) = false := by simpa using m0
  have hin : Tote.inside u (2 * u) m = (decide (u ≤ m) && decide (m ≤ 2 * u)) := rfl
  rw [m0', Bool.false_or, hin] at qy qn'
  refine ⟨_, rfl, _, rfl, _, _, rfl, rfl, _, rfl, ?_⟩
  refine ite2 (fun h1 => ?_) (fun h1 => ?_)
  · have h1' := of_decide_eq_true h1
    have qf := qn' (by rw [show decide (u ≤ m) = false from decide_eq_false (by omega), Bool.false_and])
    exact iteT ⟨_, rfl, p, a.CL, dx8, _, _, rfl, hp8, T.cCL, T.nCL_place, lf_place _ _ _ _, flt_in qf⟩
  have h1' : ¬ ((m : Int) < (u : Int)) := fun z => h1 (decide_eq_true z)
  refine ⟨_, rfl, _, rfl, _, _, rfl, rfl, .inl ⟨by decide, by decide⟩, _, _, rfl, rfl, _, rfl, ?_⟩
  refine ite2 (fun h2 => ?_) (fun h2 => ?_)
  · have h2' := of_decide_eq_true h2
    have qf := qn' (by rw [show decide (m ≤ 2 * u) = false from decide_eq_false (by omega), Bool.and_false])
    exact ⟨_, rfl, p, a.CL, dx8, _, _, rfl, hp8, T.cCL, T.nCL_place, lf_place _ _ _ _, flt_in qf⟩
  have h2' : ¬ ((m : Int) > 2 * (u : Int)) := fun z => h2 (decide_eq_true z)
  exact q2 D p c x e nm kd k r t' b m u kp H1 H2 l _ pr L gp (qy (by rw [show decide (u ≤ m) = true from decide_eq_true (by omega), show decide (m ≤ 2 * u) = true from decide_eq_true (by omega)]; rfl))
theorem pool_rules (T : Txt K mg a) (hr : Room 6 (A.deeper (PyProof.Rows.envOfC "read_pool" (defScope sPool) s.heap.objs.size a.fPool cdv))) : ∃ t, PSs (CPool P w K mg base a cdv A outer s H E) ((defBody sPool).drop 6) t ∧
    ∀ (D : Ends) (p c x : Addr) (e : Nat) (nm : Tote.Bytes) (kd : Tote.Kind) (k r : Nat) (kp : Int) (H1 H2 : Hp) (l : List Tote.Word) (pl : Int), Pre a p e x nm H H1 H2 → Ln a.CL H2 p e l pl → k ≤ 6 → r ≤ 16 →
      Out E a.CF (tailT e nm kd k r l) (PoolPost a p e H D.rt) →
      t D [some (.ref p), some (.ref c), some (.ref x), some (.int (kindNo kd)), some (.int k), some (.int kp), some (.int r), none, none, none, none, none] H2 := by
  obtain ⟨t2, h2, q2⟩ := pool_least (P := P) (w := w) (base := base) (cdv := cdv) (A := A) (outer := outer) (s := s) (H := H) (E := E) T hr
  refine ⟨_, pss_cons (ps_set (i := 7) scPool.nd rfl (Or.inl rfl) (pe_meth (pv 0) T.cCL T.mRule (ok_rule T) hr T.bRule .nil passF (pa_cons pe_str (pa_cons pe_int (pa_cons pe_int pa_nil)))))
      (pss_cons (ps_set (i := 8) scPool.nd rfl (Or.inl rfl) (pe_meth (pv 0) T.cCL T.mRule (ok_rule T) hr T.bRule .nil passF (pa_cons pe_str (pa_cons pe_int (pa_cons pe_int pa_nil)))))
      (pss_cons (ps_set (i := 9) scPool.nd rfl (Or.inl rfl) (pe_meth (pv 0) T.cCL T.mRule (ok_rule T) hr T.bRule .nil passF (pa_cons pe_str (pa_cons pe_int (pa_cons pe_int pa_nil)))))
      (pss_cons (ps_set (i := 10) scPool.nd rfl (Or.inl rfl) (pe_meth (pv 0) T.cCL T.mRule (ok_rule T) hr T.bRule .nil passF (pa_cons pe_str (pa_cons pe_int (pa_cons pe_int pa_nil))))) h2))), ?_⟩
  try dsimp only [L2.cxOf]
  intro D p c x e nm kd k r kp H1 H4 l pl pr L4 hk6 hr16 q
  obtain ⟨dx4, lw4, i4, hp4⟩ := L4.ins
  refine ⟨_, rfl, p, dx4, _, rfl, hp4, ln_no, p, e, l, _, "take", 0, 400, rfl, by decide, L4, g_take, (Out.rule q).mono fun t ht' qt2 => ?_⟩
  intro H5 L5 f5
  obtain ⟨dx5, lw5, i5, hp5⟩ := L5.ins
  refine ⟨_, rfl, p, dx5, _, rfl, hp5, ln_no, p, e, t.2, _, "break", 1, 1000, rfl, by decide, L5, g_break, (Out.rule qt2).mono fun b hb' qb2 => ?_⟩
  intro H6 L6 f6
  obtain ⟨dx6, lw6, i6, hp6⟩ := L6.ins
  refine ⟨_, rfl, p, dx6, _, rfl, hp6, ln_no, p, e, b.2, _, "least", 0, 20000, rfl, by decide, L6, g_least, (Out.rule qb2).mono fun m hm ql2 => ?_⟩
  intro H7 L7 f7
  obtain ⟨dx7, lw7, i7, hp7⟩ := L7.ins
  refine ⟨_, rfl, p, dx7, _, rfl, hp7, ln_no, p, e, m.2, _, "unit", 1, 10000, rfl, by decide, L7, g_unit, (Out.rule ql2).mono fun u hu' qu2 => ?_⟩
  intro H8 L8 f8
  exact q2 D p c x e nm kd k r t.1.1 b.1.1 m.1.1 u.1.1 kp H1 H8 u.2 u.1.2 ((((pr.next f5).next f6).next f7).next f8) L8 (fun zn => ⟨pr.le, hk6, hr16, (rule_ok ht').2, (rule_ok hb').2, (rule_ok hm).2, (rule_ok hu').2⟩) qu2
theorem pool_few (T : Txt K mg a) (hr : Room 6 (A.deeper (PyProof.Rows.envOfC "read_pool" (defScope sPool) s.heap.objs.size a.fPool cdv))) : ∃ t, PSs (CPool P w K mg base a cdv A outer s H E) ((defBody sPool).drop 5) t ∧
    ∀ (D : Ends) (p c x dn lr lp : Addr) (qs ys : List Addr) (dnm : Tote.Bytes) (rs : List CM.PRace) (ps : List Tote.Pool) (e : Nat) (nm : Tote.Bytes) (kd : Tote.Kind) (k r : Nat) (kp : Nat) (H1 H2 : Hp) (l : List Tote.Word) (pl : Nat), Pre a p e x nm H H1 H2 → Ln a.CL H2 p e l pl → CardIn a H2 c dn lr lp qs ys dnm rs ps → k ≤ 6 → 1 ≤ r → r ≤ rs.length →
      Out E a.CF (Tote.holds (kd != .legs || decide (r + k ≤ (rs.map CM.toRace).length + 1)) 4 pl >>= fun _ => Tote.holds (kd == .legs || (((rs.map CM.toRace)[r - 1]?).map fun (x : Tote.Race) => decide (k ≤ x.heads.length)).getD false) 7 kp >>= fun _ => tailT e nm kd k r l) (PoolPost a p e H D.rt) →
      t D [some (.ref p), some (.ref c), some (.ref x), some (.int (kindNo kd)), some (.int k), some (.int kp), some (.int r), none, none, none, none, none] H2 := by
  obtain ⟨t2, h2, q2⟩ := pool_rules (P := P) (w := w) (base := base) (cdv := cdv) (A := A) (outer := outer) (s := s) (H := H) (E := E) T hr
  refine ⟨_, pss_cons (ps_if (pt_cmpR op_eq (pv 3) (pe_gi rfl T.v_LEGS) (nomark _))
        (pss_one (ps_if (pt_cmpR op_gt (pe_op op_sub (pe_op op_add (pv 6) (pv 4)) pe_int) (pe_callB call_len_seq (by rfl) T.z_len PySem.boot_len (pa_cons (pe_fld (pv 1) rfl) pa_nil)) (nomark _))
          (pss_one (ps_flt T.xF (ok_FI T) (hr.mono (by decide)) rfl T.gCF T.bFI (pa_cons (pe_gi rfl T.v_BADVALUE) (pa_cons (pe_fld (pv 0) rfl) pa_nil)))) pss_nil))
        (pss_one (ps_if (pt_cmpR op_lt (pe_meth0 (pe_ix ix_list (pe_fld (pv 1) rfl) (pe_op op_sub (pv 6) pe_int) (fun _ _ => rfl)) T.cCR T.mInt (ok_int T) (hr.mono (by decide)) T.bInt .nil pass0) (pv 4) (nomark _))
          (pss_one (ps_flt T.xF (ok_FI T) (hr.mono (by decide)) rfl T.gCF T.bFI (pa_cons (pe_gi rfl T.v_FEWINTERESTS) (pa_cons (pv 5) pa_nil)))) pss_nil))) h2, ?_⟩
  try dsimp only [L2.cxOf]
  intro D p c x dn lr lp qs ys dnm rs ps e nm kd k r kp H1 H4 l pl pr L4 C4 hk6 hr1 hrl q
  have elr : (qs.map V.ref).length = (rs.map CM.toRace).length := by rw [List.length_map, List.length_map]; exact C4.lenr
  have el2 : (rs.map CM.toRace).length = rs.length := List.length_map _
  have hf16 := C4.fewr
  obtain ⟨dx4, lw4, i4, hp4⟩ := L4.ins
  obtain ⟨dc4, hc4⟩ := C4.ins
  obtain ⟨qa, qb⟩ := Out.holds q
  refine ⟨_, rfl, rfl, _, rfl, ?_⟩
  by_cases hl : kd = .legs
  · refine ite2 (fun _ => ?_) (fun z => absurd (by rw [hl]; exact hk3) z)
    have hb1 : (kd != Tote.Kind.legs) = false := by rw [hl]; rfl
    have hb2 : (kd == Tote.Kind.legs) = true := by rw [hl]; rfl
    rw [hb1, Bool.false_or] at qa qb
    refine ⟨_, rfl, _, rfl, _, _, rfl, rfl, _, _, rfl, rfl, _, rfl, c, a.CC, dc4, _, _, rfl, hc4, T.cCC, T.nCC_races, cf_races, lr, _, rfl, .inl (SqL.of C4.hlr), _, _, rfl, rfl, _, rfl, ?_⟩
    rw [elr]
    refine ite2 (fun h => ?_) (fun h => ?_)
    · have h' := of_decide_eq_true h
      exact ⟨_, rfl, p, a.CL, dx4, _, _, rfl, hp4, T.cCL, T.nCL_place, lf_place _ _ _ _, flt_in (qb (decide_eq_false (by omega)))⟩
    have h' : ¬ ((r : Int) + (k : Int) - 1 > ((rs.map CM.toRace).length : Int)) := fun z => h (decide_eq_true z)
    exact q2 D p c x e nm kd k r kp H1 H4 l _ pr L4 hk6 (by omega) ((Out.holds (qa (decide_eq_true (by omega)))).1 (by rw [hb2, Bool.true_or]))
  have hne : ¬ (decide (V.int (kindNo kd : Int) = V.int 3) = true) := by
    cases kd <;> first | decide | exact absurd rfl hl
  refine ite2 (fun z => absurd z hne) (fun _ => ?_)
  have hb1 : (kd != Tote.Kind.legs) = true := by cases kd <;> first | rfl | exact absurd rfl hl
  have hb2 : (kd == Tote.Kind.legs) = false := by cases kd <;> first | rfl | exact absurd rfl hl
  obtain ⟨u, hu⟩ : ∃ u, qs[r - 1]? = some u := ⟨qs[r - 1]'(by have := C4.lenr; omega), List.getElem?_eq_getElem _⟩
  obtain ⟨lc, r', hr1', hR, _⟩ := C4.race _ u hu
  obtain ⟨du, hui⟩ := hR.ins
  have gr := C4.good r' (List.mem_of_getElem? hr1')
  have hhd := CM.race_heads gr.ok
  have hhf := CM.race_few gr.ok
  refine ⟨_, rfl, c, a.CC, dc4, _, _, rfl, hc4, T.cCC, T.nCC_races, cf_races, _, rfl, _, _, rfl, rfl, lr, _, _, _, rfl, rfl, SqL.of C4.hlr, at_of (j := r - 1) (v := V.ref u) (by omega) (by rw [List.getElem?_map, hu]; rfl), u, du, _, rfl, hui, ri_no, u, lc, r', rfl, hR, _, rfl, _, _, rfl, rfl, _, rfl, ?_⟩
  obtain ⟨qc, qd⟩ := Out.holds (qa (by rw [hb1, Bool.true_or]))
  have hget : (((rs.map CM.toRace)[r - 1]?).map fun (x : Tote.Race) => decide (k ≤ x.heads.length)).getD false = decide (k ≤ r'.1 - r'.2.length) := by
    rw [List.getElem?_map, hr1']
    show decide (k ≤ (CM.toRace r').heads.length) = _
    rw [hhd]
  rw [hget, hb2, Bool.false_or] at qc qd
  refine ite2 (fun h => ?_) (fun h => ?_)
  · have h' := of_decide_eq_true h
    exact ⟨_, rfl, flt_in (qd (decide_eq_false (by omega)))⟩
  have h' : ¬ ((r'.1 : Int) - (r'.2.length : Int) < (k : Int)) := fun z => h (decide_eq_true z)
  exact q2 D p c x e nm kd k r kp H1 H4 l _ pr L4 hk6 (by omega) (qc (decide_eq_true (by omega)))
theorem ok_pool (T : Txt K mg a) : FnOk P w K mg base (CXF P w) 7 a.fPool a.dPool ["line", "card"] (spPool a) := by
  refine Fun.okF T.FPool scPool (fun vs H Q E h => ?_) (fun cdv A outer s H vs Q E hr h => ?_)
  · obtain ⟨p, c, dn, lr, lp, qs, ys, nm, rs, ps, e, l, pl, rfl, _⟩ := h
    rfl
  · obtain ⟨p, c, dn, lr, lp, qs, ys, nm, rs, ps, e, l, pl, rfl, L, hC, q⟩ := h
    obtain ⟨t2, h2, q2⟩ := pool_few (P := P) (w := w) (base := base) (cdv := cdv) (A := A) (outer := outer) (s := s) (H := H) (E := E) T hr
    refine ⟨_, pss_cons (ps_set (i := 2) scPool.nd rfl (Or.inl rfl) (pe_call (ok_pname T) (hr.mono (by decide)) rfl T.gPName T.FPName.kp T.bPName .nil passF (pa_cons (pv 0) (pa_cons (pv 1) pa_nil))))
      (pss_cons (ps_set (i := 3) scPool.nd rfl (Or.inl rfl) (pe_meth (pv 0) T.cCL T.mChoice (ok_choice T) (hr.mono (by decide)) T.bChoice .nil passF (pa_cons (pe_gr rfl T.g_KINDS) pa_nil)))
      (pss_cons (ps_set (i := 4) scPool.nd rfl (Or.inl rfl) (pe_meth (pv 0) T.cCL T.mNum (ok_num T) (hr.mono (by decide)) T.bNum .nil passF (pa_cons (pe_ix ix_tup (pe_gr rfl T.g_LEASTK) (pv 3) (fun _ _ => rfl)) (pa_cons (pe_ix ix_tup (pe_gr rfl T.g_MOSTK) (pv 3) (fun _ _ => rfl)) pa_nil))))
      (pss_cons (ps_set (i := 5) scPool.nd rfl (Or.inl rfl) (pe_fld (pv 0) rfl))
      (pss_cons (ps_set (i := 6) scPool.nd rfl (Or.inl rfl) (pe_meth (pv 0) T.cCL T.mRule (ok_rule T) hr T.bRule .nil passF (pa_cons pe_str (pa_cons pe_int (pa_cons (pe_callB call_len_seq (by rfl) T.z_len PySem.boot_len (pa_cons (pe_fld (pv 1) rfl) pa_nil)) pa_nil))))) h2)))), ?_⟩
    try dsimp only [L2.cxOf]
    obtain ⟨dx, lw, i0, hp⟩ := L.ins
    have elr : (qs.map V.ref).length = (rs.map CM.toRace).length := by rw [List.length_map, List.length_map]; exact hC.lenr
    have el2 : (rs.map CM.toRace).length = rs.length := List.length_map _
    have hf16 := hC.fewr
    have q1 := Out.bind (show Out E a.CF (Tote.newName e (ps.map fun (p : Tote.Pool) => p.name) l >>= _) _ from q)
    refine ⟨_, rfl, _, rfl, p, c, dn, lr, lp, qs, ys, nm, rs, ps, e, l, pl, rfl, L, hC, q1.mono fun n _ qn => ?_⟩
    intro H1 x pl1 L1 f1 hx hxn hxl
    obtain ⟨dx1, lw1, i1, hp1⟩ := L1.ins
    refine ⟨_, rfl, p, dx1, _, rfl, hp1, ln_no, p, a.hKINDS, e, n.2, pl1, ["place", "order", "any", "legs"], rfl, L1, T.t_KINDS H1, g_kinds, ?_⟩
    have qk := Out.bind (show Out E a.CF (Tote.oneOf e Tote.KINDS n.2 >>= _) _ from qn)
    rcases oneOf_choice e Tote.KINDS n.2 with ⟨f, e1, e2⟩ | ⟨i, z, kp, r2, hz, e1, e2⟩
    · rw [e1] at qk
      rw [show choiceOf e ["place", "order", "any", "legs"] n.2 = .error f from e2]
      exact qk
    rw [e1] at qk
    rw [show choiceOf e ["place", "order", "any", "legs"] n.2 = .ok ((i, kp), r2) from e2]
    obtain ⟨kd, ks⟩ := z
    have hi' : i = kindNo kd := kind_at hz
    subst hi'
    have qk2 := Out.bind (show Out E a.CF (Tote.number e (Tote.leastK kd) (Tote.mostK kd) r2 >>= _) _ from qk)
    intro H2 L2' f2
    obtain ⟨dx2, lw2, i2, hp2⟩ := L2'.ins
    refine ⟨_, rfl, p, dx2, _, rfl, hp2, ln_no, _, rfl, a.hLEASTK, _, _, _, rfl, rfl, T.t_LEASTK _, at_least kd, _, rfl, a.hMOSTK, _, _, _, rfl, rfl, T.t_MOSTK _, at_most kd, p, e, r2, _, Tote.leastK kd, Tote.mostK kd, rfl, (by cases kd <;> decide), L2', qk2.mono fun k hk qk3 => ?_⟩
    intro H3 L3 f3
    have g3 : Fr1 p H1 H3 := f2.trans f3
    have C3 := hC.keep (Keep.fr L (f1.trans g3))
    obtain ⟨dx3, lw3, i3, hp3⟩ := L3.ins
    obtain ⟨dc, hc⟩ := C3.ins
    refine ⟨_, rfl, p, a.CL, dx3, _, _, rfl, hp3, T.cCL, T.nCL_place, lf_place _ _ _ _, ?_⟩
    refine ⟨_, rfl, p, dx3, _, rfl, hp3, ln_no, _, rfl, c, a.CC, dc, _, _, rfl, hc, T.cCC, T.nCC_races, cf_races, lr, _, rfl, .inl (SqL.of C3.hlr), ?_⟩
    rw [elr]
    have qr := Out.rule (show Out E a.CF (Tote.must e "from" k.2 >>= fun m => Tote.number e 1 (rs.map CM.toRace).length m >>= _) _ from qk3)
    refine ⟨p, e, k.2, _, "from", 1, (rs.map CM.toRace).length, rfl, by omega, L3, g_from, qr.mono fun r hr' qr2 => ?_⟩
    intro H4 L4 f4
    have rb := rule_ok hr'
    have g4 : Fr1 p H1 H4 := g3.trans f4
    have C4 := hC.keep (Keep.fr L (f1.trans g4))
    exact q2 _ p c x dn lr lp qs ys nm rs ps e n.1 kd k.1.1 r.1.1 k.1.2 H1 H4 r.2 r.1.2 ⟨⟨_, _, L1⟩, hx, hxn, hxl, f1, g4⟩ L4 C4 (Nat.le_trans (CM.number_ok hk).2.1 (by cases kd <;> decide)) rb.1 (by omega) qr2
end
end RC
set_option maxRecDepth 100000
set_option maxHeartbeats 4000000
set_option linter.all false
set_option Elab.async false
namespace RC
open PySem L2
theorem RaceAt.upd {C : Addr} {H : Hp} {q lc b : Addr} {r : CM.PRace} {xs : List V} {o : HO} (h : RaceAt C H q lc r) (hb : H b = some (.lst xs)) (n : lc ≠ b) : RaceAt C (upd H b o) q lc r := by
  obtain ⟨dx, e⟩ := h.ins
  obtain ⟨ts, h1, h2, h3⟩ := h.cp
  refine ⟨⟨dx, by rw [upd_ne (ne_of e hb (by intro z; cases z))]; exact e⟩, ts, by rw [upd_ne n]; exact h1, h2, fun j t hj => ?_⟩
  obtain ⟨c, e1, e2⟩ := h3 j t hj
  exact ⟨c, e1, by rw [upd_ne (ne_of e2 hb (by intro z; cases z))]; exact e2⟩
theorem PoolAt.upd {C : Addr} {H : Hp} {y x b : Addr} {p : Tote.Pool} {xs : List V} {o : HO} (h : PoolAt C H y x p) (hb : H b = some (.lst xs)) (n : x ≠ b) : PoolAt C (upd H b o) y x p := by
  obtain ⟨⟨dx, e⟩, h2⟩ := h
  refine ⟨⟨dx, by rw [upd_ne (ne_of e hb (by intro z; cases z))]; exact e⟩, ?_⟩
  show L2.upd H b o x = _
  rw [upd_ne n]
  exact h2
theorem snoc_at {α β : Type} {P : α → β → Prop} {xs : List α} {ys : List β} {u : α} {r : β} (hl : xs.length = ys.length) (h : ∀ (j : Nat) (x : α), xs[j]? = some x → ∃ y, ys[j]? = some y ∧ P x y) (hu : P u r) :
    ∀ (j : Nat) (x : α), (xs ++ [u])[j]? = some x → ∃ y, (ys ++ [r])[j]? = some y ∧ P x y := by
  intro j x hx
  by_cases hj : j < xs.length
  · rw [List.getElem?_append_left hj] at hx
    obtain ⟨y, e1, e2⟩ := h j x hx
    exact ⟨y, by rw [List.getElem?_append_left (by omega)]; exact e1, e2⟩
  · have ej : j = xs.length := by
      have := (List.getElem?_eq_some_iff.mp hx).1
      rw [List.length_append, List.length_singleton] at this
      omega
    subst ej
    rw [List.getElem?_append_right (Nat.le_refl _), Nat.sub_self] at hx
    cases hx
    exact ⟨r, by rw [hl, List.getElem?_append_right (Nat.le_refl _), Nat.sub_self]; rfl, hu⟩
theorem CardIn.addRace {a : Ad} {H : Hp} {c dn lr lp u lc : Addr} {qs ys : List Addr} {n : Tote.Bytes} {rs : List CM.PRace} {r : CM.PRace} (h : CardIn a H c dn lr lp qs ys n rs []) (R : RaceAt a.CR H u lc r) (n1 : lc ≠ lr) (n2 : lc ≠ lp) (g : GoodR r) (hf : rs.length < 16) :
    CardIn a (upd H lr (.lst (qs.map V.ref ++ [.ref u]))) c dn lr lp (qs ++ [u]) ys n (rs ++ [r]) [] := by
  obtain ⟨dx, e⟩ := h.ins
  refine { ins := ⟨dx, by rw [upd_ne (ne_of e h.hlr (by intro z; cases z))]; exact e⟩, day := by show upd H lr _ dn = _; rw [upd_ne h.ndr]; exact h.day, ndr := h.ndr, ndp := h.ndp, hlr := by rw [upd_same, List.map_append]; rfl, hlp := by rw [upd_ne h.nrp.symm]; exact h.hlp, nrp := h.nrp, lenr := by rw [List.length_append, List.length_append, h.lenr]; rfl, lenp := h.lenp, race := fun j q hq => ?_, pool := fun j y hy => ?_, good := fun r' hr' => ?_, goodp := h.goodp, dl := h.dl, fewr := by rw [List.length_append, List.length_singleton]; omega, fewp := h.fewp }
  · have := snoc_at (P := fun q r => ∃ lc, RaceAt a.CR (upd H lr (.lst (qs.map V.ref ++ [.ref u]))) q lc r ∧ lc ≠ lr ∧ lc ≠ lp) h.lenr (fun j q hq => by
      obtain ⟨lc', r', e1, e2, e3, e4⟩ := h.race j q hq
      exact ⟨r', e1, lc', e2.upd h.hlr e3, e3, e4⟩) ⟨lc, R.upd h.hlr n1, n1, n2⟩ j q hq
    obtain ⟨r', e1, lc', e2⟩ := this
    exact ⟨lc', r', e1, e2⟩
  · have := (List.getElem?_eq_some_iff.mp hy).1
    rw [h.lenp] at this
    exact absurd this (Nat.not_lt_zero _)
  · rcases List.mem_append.mp hr' with z | z
    · exact h.good r' z
    · rw [List.mem_singleton.mp z]; exact g
theorem CardIn.addPool {a : Ad} {H : Hp} {c dn lr lp y x : Addr} {qs ys : List Addr} {n : Tote.Bytes} {rs : List CM.PRace} {ps : List Tote.Pool} {o : Tote.Pool} (h : CardIn a H c dn lr lp qs ys n rs ps) (R : PoolAt a.CP H y x o) (n1 : x ≠ lp) (gp : GoodP o) (hf : ps.length < 64) :
    CardIn a (upd H lp (.lst (ys.map V.ref ++ [.ref y]))) c dn lr lp qs (ys ++ [y]) n rs (ps ++ [o]) := by
  obtain ⟨dx, e⟩ := h.ins
  refine { ins := ⟨dx, by rw [upd_ne (ne_of e h.hlp (by intro z; cases z))]; exact e⟩, day := by show upd H lp _ dn = _; rw [upd_ne h.ndp]; exact h.day, ndr := h.ndr, ndp := h.ndp, hlr := by rw [upd_ne h.nrp]; exact h.hlr, hlp := by rw [upd_same, List.map_append]; rfl, nrp := h.nrp, lenr := h.lenr, lenp := by rw [List.length_append, List.length_append, h.lenp]; rfl, race := fun j q hq => ?_, pool := fun j q hq => ?_, good := h.good, goodp := fun p hp => ?_, dl := h.dl, fewr := h.fewr, fewp := by rw [List.length_append, List.length_singleton]; omega }
  · obtain ⟨lc', r', e1, e2, e3, e4⟩ := h.race j q hq
    exact ⟨lc', r', e1, e2.upd h.hlp e4, e3, e4⟩
  · have := snoc_at (P := fun y' o => ∃ x, PoolAt a.CP (upd H lp (.lst (ys.map V.ref ++ [.ref y]))) y' x o ∧ x ≠ lp) h.lenp (fun j q hq => by
      obtain ⟨x', o', e1, e2, e3⟩ := h.pool j q hq
      exact ⟨o', e1, x', e2.upd h.hlp e3, e3⟩) ⟨x, R.upd h.hlp n1, n1⟩ j q hq
    obtain ⟨o', e1, x', e2⟩ := this
    exact ⟨x', o', e1, e2⟩
  · rcases List.mem_append.mp hp with z | z
    · exact h.goodp p z
    · rw [List.mem_singleton.mp z]; exact gp
inductive SpAddR (a : Ad) (vs : List V) (H : Hp) (Q : VK) (E : XK) : Prop
  | mk (p c dn lr lp : Addr) (qs ys : List Addr) (n : Tote.Bytes) (rs : List CM.PRace) (ps : List Tote.Pool) (e : Nat) (l : List Tote.Word) (pl : Nat) (h0 : vs = [.ref p, .ref c]) (h1 : Ln a.CL H p e l pl) (h2 : CardIn a H c dn lr lp qs ys n rs ps) (h3 : Out E a.CF (if ps ≠ [] then .error ⟨3, pl⟩ else if rs.length = 16 then .error ⟨6, pl⟩ else Tote.raceIn e l) fun r' => ∀ (H' : Hp) (r : CM.PRace) (qs' : List Addr), r' = CM.toRace r → CardIn a H' c dn lr lp qs' ys n (rs ++ [r]) ps → EndAt a.CL H' p e → (∀ b o, H b = some o → b ≠ p → b ≠ lr → H' b = some o) → Q .non H') : SpAddR a vs H Q E
abbrev spAddR (a : Ad) : Sp := fun vs H Q E => SpAddR a vs H Q E
inductive SpAddP (a : Ad) (vs : List V) (H : Hp) (Q : VK) (E : XK) : Prop
  | mk (p c dn lr lp : Addr) (qs ys : List Addr) (n : Tote.Bytes) (rs : List CM.PRace) (ps : List Tote.Pool) (e : Nat) (l : List Tote.Word) (pl : Nat) (h0 : vs = [.ref p, .ref c]) (h1 : Ln a.CL H p e l pl) (h2 : CardIn a H c dn lr lp qs ys n rs ps) (h3 : Out E a.CF (if rs = [] then .error ⟨3, pl⟩ else if ps.length = 64 then .error ⟨6, pl⟩ else Tote.poolIn e ⟨n, rs.map CM.toRace, ps⟩ l) fun o => ∀ (H' : Hp) (ys' : List Addr), CardIn a H' c dn lr lp qs ys' n rs (ps ++ [o]) → EndAt a.CL H' p e → (∀ b u, H b = some u → b ≠ p → b ≠ lp → H' b = some u) → Q .non H') : SpAddP a vs H Q E
abbrev spAddP (a : Ad) : Sp := fun vs H Q E => SpAddP a vs H Q E
theorem len_eq {k n : Nat} : (decide (V.int (n : Int) = V.int (k : Int)) = true) ↔ n = k := by
  rw [decide_eq_true_eq]
  constructor
  · intro z; injection z with z; omega
  · intro z; rw [z]
section
variable {P : Program} {w : World} {K : PySem.W.Frag} {mg : Str → Option Value} {base : Heap} {a : Ad}
theorem scAddR : FnScope ["line", "card"] ["line", "card"] (defScope sAddR) := FnScope.of (by decide +kernel)
theorem ok_addr (T : Txt K mg a) : FnOk P w K mg base (CXF P w) 8 a.fAddR a.dAddR ["line", "card"] (spAddR a) := by
  refine Fun.okF T.FAddR scAddR (fun vs H Q E h => ?_) (fun cdv A outer s H vs Q E hr h => ?_)
  · obtain ⟨p, c, dn, lr, lp, qs, ys, nm, rs, ps, e, l, pl, rfl, _⟩ := h
    rfl
  · obtain ⟨p, c, dn, lr, lp, qs, ys, nm, rs, ps, e, l, pl, rfl, L, hC, q⟩ := h
    obtain ⟨dx, lw, i0, hp⟩ := L.ins
    obtain ⟨dc, hc⟩ := hC.ins
    refine ⟨_, pss_cons (ps_if (pt_cmpR op_gt (pe_callB call_len_seq (by rfl) T.z_len PySem.boot_len (pa_cons (pe_fld (pv 1) rfl) pa_nil)) pe_int (nomark _))
        (pss_one (ps_flt T.xF (ok_FI T) (hr.mono (by decide)) rfl T.gCF T.bFI (pa_cons (pe_gi rfl T.v_BADWORD) (pa_cons (pe_fld (pv 0) rfl) pa_nil)))) pss_nil)
      (pss_cons (ps_if (pt_cmpR op_eq (pe_callB call_len_seq (by rfl) T.z_len PySem.boot_len (pa_cons (pe_fld (pv 1) rfl) pa_nil)) (pe_gi rfl T.v_MOSTRACES) (nomark _))
        (pss_one (ps_flt T.xF (ok_FI T) (hr.mono (by decide)) rfl T.gCF T.bFI (pa_cons (pe_gi rfl T.v_TOOMANY) (pa_cons (pe_fld (pv 0) rfl) pa_nil)))) pss_nil)
      (pss_one (ps_expr (pe_bm PySem.F.plainAttrs_list PySem.F.slot_list_append PySem.F.type_list_append mt_append (pe_fld (pv 1) rfl) (pa_cons (pe_call (ok_race T) hr rfl T.gRace T.FRace.kp T.bRace .nil passF (pa_cons (pv 0) pa_nil)) pa_nil))))), ?_⟩
    try dsimp only [L2.cxOf]
    refine ⟨_, rfl, c, a.CC, dc, _, _, rfl, hc, T.cCC, T.nCC_pools, cf_pools, lp, _, rfl, .inl (SqL.of hC.hlp), _, _, rfl, rfl, _, rfl, ?_⟩
    rw [List.length_map, hC.lenp]
    refine ite2 (fun h => ?_) (fun h => ?_)
    · have h' := of_decide_eq_true h
      rw [if_pos (show ps ≠ [] from fun z => by rw [z] at h'; simp at h')] at q
      exact ⟨_, rfl, p, a.CL, dx, _, _, rfl, hp, T.cCL, T.nCL_place, lf_place _ _ _ _, flt_in q⟩
    have hps : ps = [] := by
      cases ps with
      | nil => rfl
      | cons o r => exact absurd (decide_eq_true (by simp only [List.length_cons]; omega)) h
    subst hps
    rw [if_neg (fun z => z rfl)] at q
    refine ⟨_, rfl, c, a.CC, dc, _, _, rfl, hc, T.cCC, T.nCC_races, cf_races, lr, _, rfl, .inl (SqL.of hC.hlr), rfl, _, rfl, ?_⟩
    rw [List.length_map, hC.lenr]
    refine ite2 (fun h => ?_) (fun h => ?_)
    · rw [if_pos ((len_eq (k := 16)).mp h)] at q
      exact ⟨_, rfl, p, a.CL, dx, _, _, rfl, hp, T.cCL, T.nCL_place, lf_place _ _ _ _, flt_in q⟩
    have h16 : rs.length ≠ 16 := fun z => h ((len_eq (k := 16)).mpr z)
    rw [if_neg h16] at q
    refine ⟨_, rfl, c, a.CC, dc, _, _, rfl, hc, T.cCC, T.nCC_races, cf_races, .inl ⟨rfl, _, SqL.of hC.hlr⟩, _, rfl, p, e, l, _, rfl, L, q.mono fun R _ qR => ?_⟩
    intro H1 u lc r hr' hR hg hlc f1 he
    have C1 := hC.keep (Keep.fr L f1)
    have n1 : lc ≠ lr := (ne_of_none hC.hlr hlc).symm
    have n2 : lc ≠ lp := (ne_of_none hC.hlp hlc).symm
    have hfr := hC.fewr
    have hlen : (qs.map V.ref).length < sizeLine := by rw [List.length_map, hC.lenr, sizeLine_eq]; omega
    refine ⟨lr, _, _, rfl, rfl, C1.hlr, hlen, ?_⟩
    refine qR _ r (qs ++ [u]) hr' (C1.addRace hR n1 n2 hg (by omega)) ?_ fun b o hb nb nl => ?_
    · obtain ⟨d1, l1, i1, pl1, h1⟩ := he
      exact ⟨d1, l1, i1, pl1, by rw [upd_ne (ne_of h1 C1.hlr (by intro z; cases z))]; exact h1⟩
    · rw [upd_ne nl]
      exact f1 b o hb nb
theorem scAddP : FnScope ["line", "card"] ["line", "card"] (defScope sAddP) := FnScope.of (by decide +kernel)
theorem ok_addp (T : Txt K mg a) : FnOk P w K mg base (CXF P w) 8 a.fAddP a.dAddP ["line", "card"] (spAddP a) := by
  refine Fun.okF T.FAddP scAddP (fun vs H Q E h => ?_) (fun cdv A outer s H vs Q E hr h => ?_)
  · obtain ⟨p, c, dn, lr, lp, qs, ys, nm, rs, ps, e, l, pl, rfl, _⟩ := h
    rfl
  · obtain ⟨p, c, dn, lr, lp, qs, ys, nm, rs, ps, e, l, pl, rfl, L, hC, q⟩ := h
    obtain ⟨dx, lw, i0, hp⟩ := L.ins
    obtain ⟨dc, hc⟩ := hC.ins
    refine ⟨_, pss_cons (ps_if (pt_cmpR op_eq (pe_callB call_len_seq (by rfl) T.z_len PySem.boot_len (pa_cons (pe_fld (pv 1) rfl) pa_nil)) pe_int (nomark _))
        (pss_one (ps_flt T.xF (ok_FI T) (hr.mono (by decide)) rfl T.gCF T.bFI (pa_cons (pe_gi rfl T.v_BADWORD) (pa_cons (pe_fld (pv 0) rfl) pa_nil)))) pss_nil)
      (pss_cons (ps_if (pt_cmpR op_eq (pe_callB call_len_seq (by rfl) T.z_len PySem.boot_len (pa_cons (pe_fld (pv 1) rfl) pa_nil)) (pe_gi rfl T.v_MOSTPOOLS) (nomark _))
        (pss_one (ps_flt T.xF (ok_FI T) (hr.mono (by decide)) rfl T.gCF T.bFI (pa_cons (pe_gi rfl T.v_TOOMANY) (pa_cons (pe_fld (pv 0) rfl) pa_nil)))) pss_nil)
      (pss_one (ps_expr (pe_bm PySem.F.plainAttrs_list PySem.F.slot_list_append PySem.F.type_list_append mt_append (pe_fld (pv 1) rfl) (pa_cons (pe_call (ok_pool T) hr rfl T.gPool T.FPool.kp T.bPool .nil passF (pa_cons (pv 0) (pa_cons (pv 1) pa_nil))) pa_nil))))), ?_⟩
    try dsimp only [L2.cxOf]
    refine ⟨_, rfl, c, a.CC, dc, _, _, rfl, hc, T.cCC, T.nCC_races, cf_races, lr, _, rfl, .inl (SqL.of hC.hlr), rfl, _, rfl, ?_⟩
    rw [List.length_map, hC.lenr]
    refine ite2 (fun h => ?_) (fun h => ?_)
    · rw [if_pos (List.eq_nil_of_length_eq_zero ((len_eq (k := 0)).mp h))] at q
      exact ⟨_, rfl, p, a.CL, dx, _, _, rfl, hp, T.cCL, T.nCL_place, lf_place _ _ _ _, flt_in q⟩
    rw [if_neg (fun z : rs = [] => h ((len_eq (k := 0)).mpr (by rw [z]; rfl)))] at q
    refine ⟨_, rfl, c, a.CC, dc, _, _, rfl, hc, T.cCC, T.nCC_pools, cf_pools, lp, _, rfl, .inl (SqL.of hC.hlp), rfl, _, rfl, ?_⟩
    rw [List.length_map, hC.lenp]
    refine ite2 (fun h => ?_) (fun h => ?_)
    · rw [if_pos ((len_eq (k := 64)).mp h)] at q
      exact ⟨_, rfl, p, a.CL, dx, _, _, rfl, hp, T.cCL, T.nCL_place, lf_place _ _ _ _, flt_in q⟩
    have h64 : ps.length ≠ 64 := fun z => h ((len_eq (k := 64)).mpr z)
    rw [if_neg h64] at q
    refine ⟨_, rfl, c, a.CC, dc, _, _, rfl, hc, T.cCC, T.nCC_pools, cf_pools, .inl ⟨rfl, _, SqL.of hC.hlp⟩, _, rfl, _, rfl, p, c, dn, lr, lp, qs, ys, nm, rs, ps, e, l, _, rfl, L, hC, q.mono fun o _ qo => ?_⟩
    intro H1 y x hP hxn hgp f1 he
    have C1 := hC.keep (Keep.fr L f1)
    have n1 : x ≠ lp := ne_of hP.2 C1.hlp (ints_refs hxn)
    have hfp := hC.fewp
    have hlen : (ys.map V.ref).length < sizeLine := by rw [List.length_map, hC.lenp, sizeLine_eq]; omega
    refine ⟨lp, _, _, rfl, rfl, C1.hlp, hlen, ?_⟩
    refine qo _ (ys ++ [y]) (C1.addPool hP n1 hgp (by omega)) ?_ fun b o hb nb nl => ?_
    · obtain ⟨d1, l1, i1, pl1, h1⟩ := he
      exact ⟨d1, l1, i1, pl1, by rw [upd_ne (ne_of h1 C1.hlp (by intro z; cases z))]; exact h1⟩
    · rw [upd_ne nl]
      exact f1 b o hb nb
end
end RC
set_option maxRecDepth 100000
set_option maxHeartbeats 4000000
set_option linter.all false
set_option Elab.async false
namespace RC
open PySem L2
theorem choice_head (e : Nat) (y : Tote.Word) (r : List Tote.Word) : choiceOf e ["race", "pool"] (y :: r) = if y.w = Tote.ascii "race" then .ok ((0, y.at_), r) else if y.w = Tote.ascii "pool" then .ok ((1, y.at_), r) else .error ⟨3, y.at_⟩ := by
  show (match ["race", "pool"].findIdx? (fun s => decide (Tote.ascii s = y.w)) with
    | none => Except.error (⟨3, y.at_⟩ : Tote.Fault)
    | some n => .ok ((n, y.at_), r)) = _
  by_cases h1 : y.w = Tote.ascii "race"
  · rw [if_pos h1]
    simp [List.findIdx?_cons, h1]
  · rw [if_neg h1]
    by_cases h2 : y.w = Tote.ascii "pool"
    · rw [if_pos h2]
      have h1' : ¬ Tote.ascii "race" = y.w := fun z => h1 z.symm
      simp [List.findIdx?_cons, h1', h2.symm]
    · rw [if_neg h2]
      have h1' : ¬ Tote.ascii "race" = y.w := fun z => h1 z.symm
      have h2' : ¬ Tote.ascii "pool" = y.w := fun z => h2 z.symm
      simp [List.findIdx?_cons, h1', h2']
theorem g_heads : ∀ s ∈ ["race", "pool"], GoodS s := by
  intro s hs
  simp only [List.mem_cons, List.not_mem_nil, or_false] at hs
  rcases hs with rfl | rfl
  all_goals exact ⟨by decide +kernel, by decide +kernel⟩
abbrev CardPost (a : Ad) (H : Hp) (Q : VK) (C : Tote.Card) : Prop := ∀ (H' : Hp) (c : Addr) (n : Tote.Bytes) (rs : List CM.PRace) (ps : List Tote.Pool), C = ⟨n, rs.map CM.toRace, ps⟩ → CardAt a H' c n rs ps → Same H H' → Q (.ref c) H'
/-- between the lines -/
structure CInv (a : Ad) (x c dn lr lp : Addr) (nm t : Tote.Bytes) (H : Hp) (E : XK) (Q : VK) (m : Nat) (σ : St) (H4 : Hp) (p : Addr) (e k : Nat) (rs : List CM.PRace) (ps : List Tote.Pool) (qs ys : List Addr) : Prop where
  st : σ = [some (.ref x), some (.ref p), some (.ref c)]
  me : m = t.length - e
  lt : e < t.length
  fuel : t.length - (e + 1) < k
  en : EndAt a.CL H4 p e
  cd : CardIn a H4 c dn lr lp qs ys nm rs ps
  sm : Same H H4
  q : Out E a.CF (CM.fin t.length (Tote.linesIn Tote.lineIn k (e + 1) (some ⟨nm, rs.map CM.toRace, ps⟩) (t.drop (e + 1)))) (CardPost a H Q)
inductive SpCard (K : PySem.W.Frag) (a : Ad) (vs : List V) (H : Hp) (Q : VK) (E : XK) : Prop
  | mk (x : Addr) (t : Tote.Bytes) (h0 : vs = [.ref x]) (h1 : TxAt K H x t) (h2 : Out E a.CF (Tote.readCard t) (CardPost a H Q)) : SpCard K a vs H Q E
abbrev spCard (K : PySem.W.Frag) (a : Ad) : Sp := fun vs H Q E => SpCard K a vs H Q E
section
variable {P : Program} {w : World} {K : PySem.W.Frag} {mg : Str → Option Value} {base : Heap} {a : Ad}
theorem scCard : FnScope ["text", "line", "card"] ["text"] (defScope sCard) := FnScope.of (by decide +kernel)
theorem ok_card (T : Txt K mg a) : FnOk P w K mg base (CXF P w) 9 a.fCard a.dCard ["text"] (spCard K a) := by
  refine Fun.okF T.FCard scCard (fun vs H Q E h => ?_) (fun cdv A outer s H vs Q E hr h => ?_)
  · obtain ⟨x, t, rfl, _⟩ := h
    rfl
  · obtain ⟨x, t, rfl, hx, q⟩ := h
    refine ⟨_, pss_cons (ps_set (i := 1) scCard.nd rfl (Or.inl rfl) (pe_call (ok_lfrom T) (hr.mono (by decide)) rfl T.gLFrom T.FLFrom.kp T.bLFrom .nil passF (pa_cons (pv 0) (pa_cons pe_int pa_nil))))
      (pss_cons (ps_set (i := 2) scCard.nd rfl (Or.inl rfl) (pe_make T.kCC (ok_CI T) (hr.mono (by decide)) rfl T.gCC T.bCI .nil pass0 (pa_cons (pe_call (ok_day T) (hr.mono (by decide)) rfl T.gDay T.FDay.kp T.bDay .nil passF (pa_cons (pv 1) pa_nil)) pa_nil)))
      (pss_cons (ps_while PassesOwn.leaving (pt_cmpR op_lt (pe_op op_add (pe_fld (pv 1) rfl) pe_int) (pe_callB call_len_seq (by rfl) T.z_len PySem.boot_len (pa_cons (pv 0) pa_nil)) (nomark _))
        (pss_cons (ps_set (i := 1) scCard.nd rfl (Or.inl rfl) (pe_call (ok_lfrom T) (hr.mono (by decide)) rfl T.gLFrom T.FLFrom.kp T.bLFrom .nil passF (pa_cons (pv 0) (pa_cons (pe_op op_add (pe_fld (pv 1) rfl) pe_int) pa_nil))))
        (pss_one (ps_if (pt_cmpR op_eq (pe_meth (pv 1) T.cCL T.mChoice (ok_choice T) (hr.mono (by decide)) T.bChoice .nil passF (pa_cons (pe_gr rfl T.g_HEADINGS) pa_nil)) (pe_gi rfl T.v_RACELINE) (nomark _))
          (pss_one (ps_expr (pe_call (ok_addr T) hr rfl T.gAddR T.FAddR.kp T.bAddR .nil passF (pa_cons (pv 1) (pa_cons (pv 2) pa_nil)))))
          (pss_one (ps_expr (pe_call (ok_addp T) hr rfl T.gAddP T.FAddP.kp T.bAddP .nil passF (pa_cons (pv 1) (pa_cons (pv 2) pa_nil)))))))))
      (pss_cons (ps_if (pt_cmpR op_eq (pe_callB call_len_seq (by rfl) T.z_len PySem.boot_len (pa_cons (pe_fld (pv 2) rfl) pa_nil)) pe_int (nomark _))
        (pss_one (ps_flt T.xF (ok_FI T) (hr.mono (by decide)) rfl T.gCF T.bFI (pa_cons (pe_gi rfl T.v_NORACE) (pa_cons (pe_callB call_len_seq (by rfl) T.z_len PySem.boot_len (pa_cons (pv 0) pa_nil)) pa_nil)))) pss_nil)
      (pss_one (ps_ret (pv 2)))))), ?_⟩
    try dsimp only [L2.cxOf]
    rw [CM.read_first] at q
    refine ⟨_, rfl, x, t, 0, rfl, hx, by decide, ?_⟩
    cases hL : CM.lineFrom t 0 with
    | error f => rw [hL] at q; exact q
    | ok L0 =>
      rw [hL] at q
      have q1 : Out E a.CF (match Tote.lineIn none L0 with
        | .error e => .error e
        | .ok s' => CM.fin t.length (Tote.linesIn Tote.lineIn t.length (L0.end_ + 1) s' (t.drop (L0.end_ + 1)))) _ := q
      rw [CM.lineIn_day] at q1
      obtain ⟨_, le0, _, _⟩ := CM.lineFrom_end hL
      intro H1 p1 L1 s1 hp1n
      refine ⟨_, rfl, p1, L0.end_, L0.words, _, rfl, L1, ?_⟩
      cases hd : CM.dayOf L0.end_ L0.words with
      | error f => rw [hd] at q1; exact q1
      | ok nm =>
        rw [hd] at q1
        have q2 : Out E a.CF (CM.fin t.length (Tote.linesIn Tote.lineIn t.length (L0.end_ + 1) (some ⟨nm, [], []⟩) (t.drop (L0.end_ + 1)))) _ := q1
        intro H2 dn e2 f2 hdn hdl c dc nc ndc nec
        refine ⟨c, dc, dn, rfl, upd_same, fun H3 lr lp hlr hlp nrp hc hr3 hp3 f3 => ⟨rfl, ?_⟩⟩
        have sm23 := make_same nc ndc f3
        obtain ⟨hlr1, _⟩ := upd_none hlr
        obtain ⟨hlr2, _⟩ := upd_none hlr1
        obtain ⟨hlp1, _⟩ := upd_none hlp
        obtain ⟨hlp2, _⟩ := upd_none hlp1
        have back : ∀ b, H2 b = none → H b = none := fun b hb => by
          cases hz : H b with
          | none => rfl
          | some o =>
            have h1 := s1 _ _ hz
            have nb : b ≠ p1 := fun z => by rw [z, hp1n] at hz; cases hz
            rw [f2 _ _ h1 nb] at hb
            cases hb
        have sm2 : Same H H2 := fun b o hb => f2 b o (s1 _ _ hb) (fun z => by rw [z, hp1n] at hb; cases hb)
        have hlr0 := back _ hlr2
        have hlp0 := back _ hlp2
        refine ⟨fun m σ H4 => ∃ p e k rs ps qs ys, CInv a x c dn lr lp nm t H E Q m σ H4 p e k rs ps qs ys, ⟨_, p1, L0.end_, t.length, [], [], [], [], rfl, rfl, le0, by omega, ?_, ?_, sm2.trans sm23, q2⟩, ?_⟩
        · obtain ⟨d1, l1, i1, pl1, h1⟩ := e2
          exact ⟨d1, l1, i1, pl1, sm23 _ _ h1⟩
        · exact { ins := ⟨dc, hc⟩, day := sm23 _ _ hdn, ndr := ne_of_none hdn hlr2, ndp := ne_of_none hdn hlp2, hlr := hr3, hlp := hp3, nrp := nrp, lenr := rfl, lenp := rfl, race := fun j q hq => (by simp at hq), pool := fun j q hq => (by simp at hq), good := fun r hr => (by simp at hr), goodp := fun p hp => (by simp at hp), dl := hdl, fewr := Nat.zero_le _, fewp := Nat.zero_le _ }
        rintro m σ H4 ⟨p, e, k, rs, ps, qs, ys, ⟨rfl, rfl, hel, hk, hE, hC, sm, q4⟩⟩
        have hx4 := hx.same sm
        have htl := hx.2
        obtain ⟨d4, l4, i4, pl4, hp4⟩ := hE
        obtain ⟨dc4, hc4⟩ := hC.ins
        refine ⟨_, rfl, p, a.CL, d4, _, _, rfl, hp4, T.cCL, T.nCL_end, lf_end _ _ _ _, _, _, rfl, rfl, _, rfl, x, _, rfl, .inl hx4.1, _, _, rfl, rfl, _, rfl, ?_⟩
        by_cases hlt : e + 1 < t.length
        · have hd1 : decide ((e : Int) + 1 < (((CM.I8 t).map V.int).length : Int)) = true := decide_eq_true (by rw [wlen]; omega)
          refine ite2 (fun _ => ?_) (fun z => absurd hd1 z)
          refine ⟨fun σ' H' => ∃ m', m' < t.length - e ∧ ∃ p e k rs ps qs ys, CInv a x c dn lr lp nm t H E Q m' σ' H' p e k rs ps qs ys, fun σ' H' z => z, ?_⟩
          refine ⟨_, rfl, _, rfl, p, a.CL, d4, _, _, rfl, hp4, T.cCL, T.nCL_end, lf_end _ _ _ _, _, _, rfl, rfl, x, t, e + 1, rfl, hx4, by omega, ?_⟩
          obtain ⟨k', rfl⟩ : ∃ k', k = k' + 1 := ⟨k - 1, by omega⟩
          rw [CM.lines_from hlt] at q4
          cases hL2 : CM.lineFrom t (e + 1) with
          | error f => rw [hL2] at q4; exact q4
          | ok L5 =>
            rw [hL2] at q4
            obtain ⟨ge5, le5, ne5, _⟩ := CM.lineFrom_end hL2
            intro H5 p5 L5' s5 hp5n
            have C5 := hC.keep (Keep.same s5)
            obtain ⟨ws, e5⟩ := L5
            cases ws with
            | nil => exact absurd rfl ne5
            | cons y r =>
              have q5 := q4
              dsimp only at q5
              rw [CM.lineIn_card] at q5
              have ge5' : e + 1 ≤ e5 := ge5
              have le5' : e5 < t.length := le5
              obtain ⟨d5, l5, i5, hp5⟩ := L5'.ins
              have hf16 := hC.fewr
              have hf64 := hC.fewp
              have elr : (rs.map CM.toRace).length = rs.length := List.length_map _
              have next : ∀ (H7 : Hp) (rs' : List CM.PRace) (ps' : List Tote.Pool) (qs' ys' : List Addr), EndAt a.CL H7 p5 e5 → CardIn a H7 c dn lr lp qs' ys' nm rs' ps' → Same H H7 → Out E a.CF (CM.fin t.length (Tote.linesIn Tote.lineIn k' (e5 + 1) (some ⟨nm, rs'.map CM.toRace, ps'⟩) (t.drop (e5 + 1)))) (CardPost a H Q) →
                ∃ m', m' < t.length - e ∧ ∃ p e k rs ps qs ys, CInv a x c dn lr lp nm t H E Q m' [some (.ref x), some (.ref p5), some (.ref c)] H7 p e k rs ps qs ys :=
                fun H7 rs' ps' qs' ys' h1 h2 h3 h4 => ⟨t.length - e5, by omega, p5, e5, k', rs', ps', qs', ys', rfl, rfl, le5', by omega, h1, h2, h3, h4⟩
              have smk : ∀ (H6 H7 : Hp) (l : Addr), H l = none → Fr1 p5 H5 H6 → (∀ b o, H6 b = some o → b ≠ p5 → b ≠ l → H7 b = some o) → Same H H7 := fun H6 H7 l hl f6 f7 b o hb => by
                have hb5 := s5 _ _ (sm _ _ hb)
                have nb : b ≠ p5 := ne_of_none (sm _ _ hb) hp5n
                exact f7 b o (f6 b o hb5 nb) nb (ne_of_none hb hl)
              refine ⟨_, rfl, p5, d5, _, rfl, hp5, ln_no, p5, a.hHEADINGS, e5, y :: r, _, ["race", "pool"], rfl, L5', T.t_HEADINGS _, g_heads, ?_⟩
              refine Out.to (choice_head _ _ _) ?_
              by_cases h1 : y.w = Tote.ascii "race"
              · refine Out.to (if_pos h1) ?_
                rw [if_pos h1] at q5
                intro H6 L6 f6
                have C6 := C5.keep (Keep.fr L5' f6)
                refine ⟨rfl, _, rfl, iteT ⟨_, rfl, _, rfl, p5, c, dn, lr, lp, qs, ys, nm, rs, ps, e5, r, y.at_, rfl, L6, C6, ?_⟩⟩
                by_cases hps : ps ≠ []
                · refine Out.to (if_pos hps) ?_
                  rw [if_pos (show (⟨nm, rs.map CM.toRace, ps⟩ : Tote.Card).pools ≠ [] from hps)] at q5
                  exact q5
                refine Out.to (if_neg hps) ?_
                rw [if_neg (show ¬ ((⟨nm, rs.map CM.toRace, ps⟩ : Tote.Card).pools ≠ []) from hps)] at q5
                by_cases h16 : rs.length = 16
                · refine Out.to (if_pos h16) ?_
                  rw [if_pos (show (⟨nm, rs.map CM.toRace, ps⟩ : Tote.Card).races.length = 16 from elr.trans h16)] at q5
                  exact q5
                refine Out.to (if_neg h16) ?_
                rw [if_neg (show ¬ ((⟨nm, rs.map CM.toRace, ps⟩ : Tote.Card).races.length = 16) from fun z => h16 (elr.symm.trans z)), if_neg (show ¬ (16 < (⟨nm, rs.map CM.toRace, ps⟩ : Tote.Card).races.length) from fun z => by have : 16 < (rs.map CM.toRace).length := z; omega)] at q5
                unfold Tote.withRace at q5
                cases hR : Tote.raceIn e5 r with
                | error f => rw [hR] at q5; exact q5
                | ok R =>
                  rw [hR] at q5
                  intro H7 r' qs' er C7 he7 f7
                  subst er
                  have q7 : Out E a.CF (CM.fin t.length (Tote.linesIn Tote.lineIn k' (e5 + 1) (some ⟨nm, rs.map CM.toRace ++ [CM.toRace r'], ps⟩) (t.drop (e5 + 1)))) _ := q5
                  rw [show rs.map CM.toRace ++ [CM.toRace r'] = (rs ++ [r']).map CM.toRace from by rw [List.map_append]; rfl] at q7
                  exact next H7 (rs ++ [r']) ps qs' ys he7 C7 (smk H6 H7 lr hlr0 f6 f7) q7
              · refine Out.to (if_neg h1) ?_
                rw [if_neg h1] at q5
                by_cases h2 : y.w = Tote.ascii "pool"
                · refine Out.to (if_pos h2) ?_
                  rw [if_pos h2] at q5
                  intro H6 L6 f6
                  have C6 := C5.keep (Keep.fr L5' f6)
                  refine ⟨rfl, _, rfl, iteF ⟨_, rfl, _, rfl, p5, c, dn, lr, lp, qs, ys, nm, rs, ps, e5, r, y.at_, rfl, L6, C6, ?_⟩⟩
                  by_cases hrs : rs = []
                  · refine Out.to (if_pos hrs) ?_
                    rw [if_pos (show (⟨nm, rs.map CM.toRace, ps⟩ : Tote.Card).races = [] from by rw [hrs]; rfl)] at q5
                    exact q5
                  refine Out.to (if_neg hrs) ?_
                  rw [if_neg (show ¬ ((⟨nm, rs.map CM.toRace, ps⟩ : Tote.Card).races = []) from fun z => hrs (List.map_eq_nil_iff.mp z))] at q5
                  by_cases h64 : ps.length = 64
                  · refine Out.to (if_pos h64) ?_
                    rw [if_pos (show (⟨nm, rs.map CM.toRace, ps⟩ : Tote.Card).pools.length = 64 from h64)] at q5
                    exact q5
                  refine Out.to (if_neg h64) ?_
                  rw [if_neg (show ¬ ((⟨nm, rs.map CM.toRace, ps⟩ : Tote.Card).pools.length = 64) from h64), if_neg (show ¬ (64 < (⟨nm, rs.map CM.toRace, ps⟩ : Tote.Card).pools.length) from fun z => by have : 64 < ps.length := z; omega)] at q5
                  unfold Tote.withPool at q5
                  cases hR : Tote.poolIn e5 ⟨nm, rs.map CM.toRace, ps⟩ r with
                  | error f => rw [hR] at q5; exact q5
                  | ok o =>
                    rw [hR] at q5
                    intro H7 ys' C7 he7 f7
                    exact next H7 rs (ps ++ [o]) qs ys' he7 C7 (smk H6 H7 lp hlp0 f6 f7) q5
                · refine Out.to (if_neg h2) ?_
                  rw [if_neg h2] at q5
                  exact q5
        · have hd1 : ¬ (decide ((e : Int) + 1 < (((CM.I8 t).map V.int).length : Int)) = true) := by rw [decide_eq_true_eq, wlen]; omega
          refine ite2 (fun z => absurd z hd1) (fun _ => ?_)
          rw [CM.lines_end (by omega) (by omega)] at q4
          refine ⟨_, rfl, c, a.CC, dc4, _, _, rfl, hc4, T.cCC, T.nCC_races, cf_races, lr, _, rfl, .inl (SqL.of hC.hlr), rfl, _, rfl, ?_⟩
          rw [List.length_map, hC.lenr]
          have q5 : Out E a.CF (if rs.map CM.toRace = [] then Except.error (⟨8, t.length⟩ : Tote.Fault) else .ok (⟨nm, rs.map CM.toRace, ps⟩ : Tote.Card)) _ := q4
          refine ite2 (fun h => ?_) (fun h => ?_)
          · have hrs := List.eq_nil_of_length_eq_zero ((len_eq (k := 0)).mp h)
            rw [if_pos (by rw [hrs]; rfl)] at q5
            refine ⟨_, rfl, x, _, rfl, .inl hx4.1, ?_⟩
            rw [wlen]
            exact flt_in q5
          · rw [if_neg (fun z => h ((len_eq (k := 0)).mpr (by rw [List.map_eq_nil_iff.mp z]; rfl)))] at q5
            exact ⟨_, rfl, q5 H4 c nm rs ps rfl ⟨dn, lr, lp, qs, ys, hC⟩ sm⟩
end
end RC
set_option maxRecDepth 100000
set_option maxHeartbeats 4000000
set_option linter.all false
set_option Elab.async false
namespace RC
open PySem L2
/-! ### answer_of -/
inductive SpAnswer (P : Program) (w : World) (K : PySem.W.Frag) (mg : Str → Option Value) (base : Heap) (a : Ad) (vs : List V) (H : Hp) (Q : VK) (E : XK) : Prop
  | mk (x f : Addr) (t : Tote.Bytes) (h0 : vs = [.ref x, .ref f]) (h1 : SqL K H x ((CM.I8 t).map V.int)) (h2 : (∃ fd, H f = some (FnO f fd))) (h3 : (65536 < t.length → ∀ (H' : Hp) (l : Addr), H' l = some (.lst [.int (-2)]) → Q (.ref l) H')) (h4 : (¬ 65536 < t.length → (∀ e, Tote.readCard t = .error e → ∀ (H' : Hp) (l : Addr), H' l = some (.lst [.int (-6)]) → Q (.ref l) H') ∧ ∀ (H' : Hp) (c : Addr) (n : Tote.Bytes) (rs : List CM.PRace) (ps : List Tote.Pool), Tote.readCard t = .ok ⟨n, rs.map CM.toRace, ps⟩ → CardAt a H' c n rs ps → Same H H' → ∀ (A : Around) (outer : List Env) (s : Shared) (us : List Value), Room 8 A → Env0 P w K mg base A outer s H' → Vals [.ref c] us → codeAny (model P w) A (.call (.ref f) ⟨us, []⟩) (CR CX0 outer P w H' s Q E0) s)) : SpAnswer P w K mg base a vs H Q E
abbrev spAnswer (P : Program) (w : World) (K : PySem.W.Frag) (mg : Str → Option Value) (base : Heap) (a : Ad) : Sp := fun vs H Q E => SpAnswer P w K mg base a vs H Q E
section
variable {P : Program} {w : World} {K : PySem.W.Frag} {mg : Str → Option Value} {base : Heap} {a : Ad}
theorem scAnswer : FnScope ["text", "tell", "card"] ["text", "tell"] (defScope sAnswer) := FnScope.of (by decide +kernel)
theorem ok_answer (T : Txt K mg a) : FnOk P w K mg base CX0 10 a.fAnswer a.dAnswer ["text", "tell"] (spAnswer P w K mg base a) := by
  refine T.FAnswer.ok scAnswer (fun vs H Q E h => ?_) (fun cdv A outer s H vs Q E hr h => ?_)
  · obtain ⟨x, f, t, rfl, _⟩ := h
    rfl
  · obtain ⟨x, f, t, rfl, hx, ⟨fd, hf⟩, q1, q2⟩ := h
    refine ⟨_, pss_cons (ps_if (pt_cmpR op_gt (pe_callB call_len_seq (by rfl) T.z_len PySem.boot_len (pa_cons (pv 0) pa_nil)) (pe_gi rfl T.v_MOSTBYTES) (nomark _)) (pss_one (ps_ret (pe_lst (pa_cons (pe_gi rfl T.v_TOOLONG) pa_nil)))) pss_nil)
      (pss_cons (ps_try0 rfl rfl rfl T.xF rfl T.gCF (fun pn' xe' E' hp => pss_one (ps_set (i := 2) scAnswer.nd rfl (Or.inl rfl) (pe_call (ok_card T) hr rfl T.gCard T.FCard.kp T.bCard .nil hp (pa_cons (pv 0) pa_nil))))
        (fun e xe' => pss_one (ps_ret (pe_lst (pa_cons (pe_gi rfl T.v_FAULTY) pa_nil)))))
      (pss_one (ps_ret (pe_callV (k := 8) (hr.mono (by decide)) (pv 1) (pa_cons (pv 2) pa_nil))))), ?_⟩
    try dsimp only [L2.cxOf]
    refine ⟨_, rfl, x, _, rfl, .inl hx, _, _, rfl, rfl, _, rfl, ?_⟩
    rw [wlen]
    refine ite2 (fun h => ?_) (fun h => ?_)
    · have h' := of_decide_eq_true h
      exact ⟨(by show 1 ≤ sizeLine; decide), fun l hl => q1 (by omega) _ l upd_same⟩
    have h' : ¬ ((t.length : Int) > 65536) := fun z => h (decide_eq_true z)
    obtain ⟨qe, qo⟩ := q2 (by omega)
    refine ⟨_, rfl, x, t, rfl, ⟨hx, by omega⟩, ?_⟩
    cases hR : Tote.readCard t with
    | error f =>
      intro d H' hd
      exact ⟨rfl, d, rfl, fun e σ' hl he => ⟨(by show 1 ≤ sizeLine; decide), fun l hl => qe f hR _ l upd_same⟩⟩
    | ok C =>
      intro H' c n rs ps eC hC sm
      subst eC
      exact ⟨_, rfl, f, rfl, ⟨fd, sm _ _ hf⟩, _, rfl, ⟨fd, sm _ _ hf⟩, fun A outer s us hr e0 r => qo H' c n rs ps hR hC sm A outer s us hr e0 r⟩
end
theorem SqL.lam {K : PySem.W.Frag} {H : Hp} {x P : Addr} {xs : List V} {ps : Array Value} {H' : Hp} (hP : H P = some (.tbl ps)) (k : ∀ b u, H b = some u → b ≠ P → H' b = some u) (h : SqL K H x xs) : SqL K H' x xs := by
  rcases h with (h | ⟨o, h⟩) | h
  · exact .inl (.inl (k x _ h (ne_of h hP (by intro z; cases z))))
  · exact .inl (.inr ⟨o, k x _ h (ne_of h hP (by intro z; cases z))⟩)
  · exact .inr h
end RC
set_option maxRecDepth 100000
set_option maxHeartbeats 4000000
set_option linter.all false
set_option Elab.async false
namespace RC
open PySem L2
open TL
/-! ### words and numbers as texts -/
theorem digit_nat : ∀ k, k < 10 → (Nat.digitChar k).toNat = 48 + k := by decide
def N8 (b : Tote.Bytes) : List Nat := b.map UInt8.toNat
theorem dec_core : ∀ (f n : Nat) (ds : List Char) (l : Tote.Bytes), ds.map Char.toNat = N8 l → (Nat.toDigitsCore 10 f n ds).map Char.toNat = N8 (Tote.digitsOf f n l)
  | 0, n, ds, l, h => h
  | f + 1, n, ds, l, h => by
    have e : Nat.toDigitsCore 10 (f + 1) n ds = if n / 10 = 0 then Nat.digitChar (n % 10) :: ds else Nat.toDigitsCore 10 f (n / 10) (Nat.digitChar (n % 10) :: ds) := rfl
    have h2 : (Nat.digitChar (n % 10) :: ds).map Char.toNat = N8 (UInt8.ofNat (48 + n % 10) :: l) := by
      rw [List.map_cons, h, digit_nat _ (Nat.mod_lt _ (by decide))]
      show _ = (UInt8.ofNat (48 + n % 10)).toNat :: N8 l
      have : (UInt8.ofNat (48 + n % 10)).toNat = 48 + n % 10 := by
        rw [UInt8.toNat_ofNat']
        omega
      rw [this]
    have e2 : Tote.digitsOf (f + 1) n l = if n < 10 then UInt8.ofNat (48 + n) :: l else Tote.digitsOf f (n / 10) (UInt8.ofNat (48 + n % 10) :: l) := rfl
    rw [e, e2]
    by_cases hn : n < 10
    · have e3 : n % 10 = n := by omega
      rw [if_pos (by omega), if_pos hn]
      rw [e3] at h2 ⊢
      exact h2
    · rw [if_neg (by omega), if_neg hn]
      exact dec_core f (n / 10) _ _ h2
theorem digits_len : ∀ (f n k : Nat) (l : Tote.Bytes), n < 10 ^ (k + 1) → (Tote.digitsOf f n l).length ≤ l.length + (k + 1)
  | 0, n, k, l, h => by
    show l.length ≤ _
    omega
  | f + 1, n, k, l, h => by
    have e2 : Tote.digitsOf (f + 1) n l = if n < 10 then UInt8.ofNat (48 + n) :: l else Tote.digitsOf f (n / 10) (UInt8.ofNat (48 + n % 10) :: l) := rfl
    rw [e2]
    by_cases hn : n < 10
    · rw [if_pos hn, List.length_cons]
      omega
    · rw [if_neg hn]
      cases k with
      | zero => exact absurd h hn
      | succ k =>
        have := digits_len f (n / 10) k (UInt8.ofNat (48 + n % 10) :: l) (by rw [Nat.pow_succ] at h; omega)
        rw [List.length_cons] at this
        omega
theorem dec_len {n : Nat} (h : n ≤ 20000) : (Tote.decimal n).length ≤ 5 := by
  have := digits_len (n + 1) n 4 [] (by show n < 100000; omega)
  simpa [Tote.decimal] using this
theorem log_ok {n : Nat} (h : n ≤ 20000) : (n : Int).natAbs.log2 < 1920 := by
  rw [Int.natAbs_natCast]
  by_cases z : n = 0
  · subst z; decide
  · exact Nat.lt_of_lt_of_le ((Nat.log2_lt z).mpr (show n < 2 ^ 15 by omega)) (by decide)

theorem I8_N8 (b : Tote.Bytes) : ((N8 b).map fun (c : Nat) => V.int c) = (CM.I8 b).map V.int := by
  unfold N8 CM.I8
  rw [List.map_map, List.map_map]
  rfl
def numS (n : Nat) : Str := Str.ofString (toString (n : Int))
theorem num_tl (n : Nat) : tl (numS n) = N8 (Tote.decimal n) := by
  have e : (Str.ofString (toString (n : Int))).cps.toList = (toString (n : Int)).toList.map Char.toNat := PyProof.Rows.signs_ofString _
  show (Str.ofString (toString (n : Int))).cps.toList = _
  rw [e]
  show (String.ofList (Nat.toDigits 10 n)).toList.map Char.toNat = _
  rw [String.toList_ofList]
  exact dec_core (n + 1) n [] [] rfl
theorem N8_len (b : Tote.Bytes) : (N8 b).length = b.length := List.length_map _
theorem num_len {n : Nat} (h : n ≤ 20000) : (numS n).length ≤ 6 := by
  rw [len_tl, num_tl, N8_len]
  have := dec_len h
  omega
theorem as_tl {s : String} (h : GoodS s) : tl (Str.ofString s) = N8 (Tote.ascii s) := by
  have e : (Str.ofString s).cps.toList = s.toList.map Char.toNat := PyProof.Rows.signs_ofString s
  show (Str.ofString s).cps.toList = _
  rw [e]
  unfold N8 Tote.ascii
  rw [List.map_map]
  apply List.map_congr_left
  intro c hc
  have := h.2 c hc
  show c.toNat = (UInt8.ofNat c.toNat).toNat
  rw [UInt8.toNat_ofNat']
  omega
/-- words as texts and as bytes, none long -/
structure WS (ys : List Str) (bs : List Tote.Bytes) : Prop where
  eq : ys.map tl = bs.map N8
  few : ∀ y ∈ ys, y.length ≤ 6
theorem WS.nil : WS [] [] := ⟨rfl, fun y hy => by cases hy⟩
theorem WS.cons {y : Str} {b : Tote.Bytes} {ys : List Str} {bs : List Tote.Bytes} (e : tl y = N8 b) (l : y.length ≤ 6) (t : WS ys bs) : WS (y :: ys) (b :: bs) :=
  ⟨by rw [List.map_cons, List.map_cons, e, t.eq], fun z hz => by
    rcases List.mem_cons.mp hz with rfl | hz
    · exact l
    · exact t.few z hz⟩
theorem WS.append {ys ys' : List Str} {bs bs' : List Tote.Bytes} (a : WS ys bs) (b : WS ys' bs') : WS (ys ++ ys') (bs ++ bs') :=
  ⟨by rw [List.map_append, List.map_append, a.eq, b.eq], fun z hz => (List.mem_append.mp hz).elim (a.few z) (b.few z)⟩
theorem join_N8 : ∀ bs : List Tote.Bytes, joinL [32] (bs.map N8) = N8 ((bs.intersperse [32]).flatten)
  | [] => rfl
  | [b] => by simp [joinL]
  | b :: c :: r => by
    show N8 b ++ ([32] ++ joinL [32] ((c :: r).map N8)) = _
    rw [join_N8 (c :: r), List.intersperse_cons₂, List.flatten_cons, List.flatten_cons]
    unfold N8
    rw [List.map_append, List.map_append]
    rfl
theorem sum_le : ∀ {ys : List Str}, (∀ y ∈ ys, y.length ≤ 6) → (ys.map (·.length)).sum ≤ 6 * ys.length
  | [], _ => Nat.le_refl _
  | y :: ys, h => by
    have h1 := h y List.mem_cons_self
    have h2 := sum_le fun z hz => h z (List.mem_cons_of_mem _ hz)
    rw [List.map_cons, List.sum_cons, List.length_cons]
    omega
theorem WS.join {ys : List Str} {bs : List Tote.Bytes} (h : WS ys bs) : tl (Txt.join " " ys) = N8 ((bs.intersperse [32]).flatten) := by
  rw [join_eq, tl_join, h.eq, ← join_N8]
  rfl
theorem WS.ints {ys : List Str} {bs : List Tote.Bytes} (h : WS ys bs) : ((Txt.join " " ys).cps.toList.map fun (c : Nat) => V.int c) = (CM.I8 ((bs.intersperse [32]).flatten)).map V.int := by
  show (tl (Txt.join " " ys)).map _ = _
  rw [h.join, I8_N8]
theorem WS.len {ys : List Str} {bs : List Tote.Bytes} (h : WS ys bs) : (Txt.join " " ys).length ≤ 7 * ys.length := by
  rw [join_eq]
  have h1 := StrLaws.join_length_le " " ys
  have h2 := sum_le h.few
  have h3 : ((" " : Str)).length = 1 := rfl
  rw [h3] at h1
  omega
theorem WS.flen {ys : List Str} {bs : List Tote.Bytes} (h : WS ys bs) : ((bs.intersperse [32]).flatten).length ≤ 7 * ys.length := by
  have h1 := h.len
  rw [len_tl, h.join, N8_len] at h1
  exact h1
/-! ### couples_by_b -/
theorem putB_sorted {c : Nat × Nat} : ∀ {l : List (Nat × Nat)}, l.Pairwise (fun p q => p.2 ≤ q.2) → (Tote.putB c l).Pairwise (fun p q => p.2 ≤ q.2)
  | [], _ => by simp [Tote.putB]
  | x :: l, h => by
    rw [List.pairwise_cons] at h
    unfold Tote.putB
    split
    · rename_i hc
      refine List.pairwise_cons.mpr ⟨fun y hy => ?_, List.pairwise_cons.mpr h⟩
      rcases List.mem_cons.mp hy with rfl | hy
      · omega
      · have := h.1 y hy
        omega
    · rename_i hc
      refine List.pairwise_cons.mpr ⟨fun y hy => ?_, putB_sorted h.2⟩
      rcases CM.putB_mem.mp hy with rfl | hy
      · omega
      · exact h.1 y hy
theorem fold_sorted : ∀ (cs l : List (Nat × Nat)), l.Pairwise (fun p q => p.2 ≤ q.2) → (cs.foldl (fun l c => Tote.putB c l) l).Pairwise (fun p q => p.2 ≤ q.2)
  | [], _, h => h
  | c :: cs, l, h => fold_sorted cs (Tote.putB c l) (putB_sorted h)
theorem inj_nd {cs : List (Nat × Nat)} (nd : (cs.map (·.2)).Nodup) : ∀ {a b : Nat × Nat}, a ∈ cs → b ∈ cs → a.2 = b.2 → a = b := by
  induction cs with
  | nil => intro a b h; cases h
  | cons c cs ih =>
    rw [List.map_cons, List.nodup_cons] at nd
    intro a b ha hb e
    rcases List.mem_cons.mp ha with ea | ha'
    · rcases List.mem_cons.mp hb with eb | hb'
      · rw [ea, eb]
      · exact absurd (List.mem_map.mpr ⟨b, hb', by rw [← e, ea]⟩) nd.1
    · rcases List.mem_cons.mp hb with eb | hb'
      · exact absurd (List.mem_map.mpr ⟨a, ha', by rw [e, eb]⟩) nd.1
      · exact ih nd.2 ha' hb' e
theorem sort_is {cs zs : List (Nat × Nat)} (nd : (cs.map (·.2)).Nodup) (hp : zs.Perm cs) (hs : zs.Pairwise fun p q => p.2 ≤ q.2) : zs = CM.cSort cs :=
  List.Perm.eq_of_pairwise (fun a b ha hb h1 h2 => inj_nd nd (hp.mem_iff.mp ha) ((CM.cSort_perm cs).mem_iff.mp hb) (Nat.le_antisymm h1 h2)) hs (fold_sorted cs [] .nil) (hp.trans (CM.cSort_perm cs).symm)
def toI (c : Nat × Nat) : Int × Int := ((c.1 : Int), (c.2 : Int))
theorem sort_zip {ts : List Addr} {cs : List (Nat × Nat)} {zs : List (Addr × (Int × Int))} (nd : (cs.map (·.2)).Nodup) (hl : ts.length = cs.length) (hp : zs.Perm (ts.zip (cs.map toI))) (hs : zs.Pairwise fun p q => p.2.2 ≤ q.2.2) : zs.map (·.2) = (CM.cSort cs).map toI := by
  have h1 : (zs.map (·.2)).Perm (cs.map toI) := by
    have := hp.map (·.2)
    rw [show (fun p : Addr × (Int × Int) => p.2) = Prod.snd from rfl, List.map_snd_zip (by rw [List.length_map, hl]; exact Nat.le_refl _)] at this
    exact this
  obtain ⟨z, hz, e⟩ := perm_map_inv h1 rfl
  have h2 : z.Pairwise fun p q => p.2 ≤ q.2 := by
    have h3 : (zs.map (·.2)).Pairwise fun p q : Int × Int => p.2 ≤ q.2 := by
      rw [List.pairwise_map]
      exact hs
    rw [e, List.pairwise_map] at h3
    exact h3.imp fun {a b} h => by
      have h : (a.2 : Int) ≤ (b.2 : Int) := h
      omega
  rw [e, sort_is nd hz h2]
/-- all is kept but at one place -/
def But (c : Addr) (H H' : Hp) : Prop := ∀ b u, H b = some u → b ≠ c → H' b = some u
theorem But.same {c : Addr} {H H1 : Hp} (s : Same H H1) : But c H H1 := fun x u e _ => s x u e
theorem But.keep {c : Addr} {H H' : Hp} {ps : Array Value} (b : But c H H') (h : H c = some (.tbl ps)) : Keep H H' := fun x u e n => b x u e (fun z => by
  rw [z, h] at e
  cases e
  exact n.2)
/-- the lambda of couples_by_b: its place, its name -/
abbrev pByB : Pos := match defBody sByB with
  | [.Return (some (.Call _ _ [⟨_, .Lambda _ _ _ p, _⟩] _)) _] => p
  | _ => ⟨0, 0, 0, 0⟩
abbrev qByB : Str := (("Race.couples_by_b" : Str) ++ ".<locals>.") ++ "<lambda>"
def Tab (P' : Addr) (H : Hp) : Prop := H P' = some (.tbl #[]) ∨ ∃ c', H P' = some (.tbl #[rawInt pByB.line, rawInt pByB.col, .ref c']) ∧ H c' = some (CdO c' qByB)
theorem Tab.tbl {P' : Addr} {H : Hp} (h : Tab P' H) : ∃ ps, H P' = some (.tbl ps) := by
  rcases h with h | ⟨c', h, _⟩
  · exact ⟨_, h⟩
  · exact ⟨_, h⟩
theorem Tab.mono {P' : Addr} {H H' : Hp} (h : Tab P' H) (k : ∀ b u, H b = some u → (∀ xs, u ≠ .lst xs) → H' b = some u) : Tab P' H' := by
  rcases h with h | ⟨c', h, hc⟩
  · exact .inl (k _ _ h fun _ z => by cases z)
  · exact .inr ⟨c', k _ _ h fun _ z => (by cases z), k _ _ hc fun _ z => (by cases z)⟩
inductive SpByB (a : Ad) (P' : Addr) (vs : List V) (H : Hp) (Q : VK) (E : XK) : Prop
  | mk (q lc : Addr) (r : CM.PRace) (h0 : vs = [.ref q]) (h1 : RaceAt a.CR H q lc r) (h2 : GoodR r) (h3 : Tab P' H) (h4 : ∀ (H' : Hp) (l : Addr), H l = none → CouplesAt H' l (CM.cSort r.2) → Tab P' H' → But P' H H' → Q (.ref l) H') : SpByB a P' vs H Q E
abbrev spByB (a : Ad) (P' : Addr) : Sp := fun vs H Q E => SpByB a P' vs H Q E
section
variable {P : Program} {w : World} {K : PySem.W.Frag} {mg : Str → Option Value} {base : Heap} {a : Ad}
theorem scByB : FnScope ["self"] ["self"] (defScope sByB) := FnScope.of (by decide +kernel)
theorem couples_sorted {H H' : Hp} {D : Addr} {ts : List Addr} {cs : List (Nat × Nat)} {zs : List (Addr × (Int × Int))} (nd : (cs.map (·.2)).Nodup) (hl : ts.length = cs.length) (h3 : ∀ (j : Nat) (t : Addr), ts[j]? = some t → ∃ c : Nat × Nat, cs[j]? = some c ∧ H t = some (.tup [.int c.1, .int c.2]))
    (hp : zs.Perm (ts.zip (cs.map toI))) (hs : zs.Pairwise fun p q => p.2.2 ≤ q.2.2) (kp : ∀ b xs, H b = some (.tup xs) → H' b = some (.tup xs)) (hD : H' D = some (.lst (zs.map fun p => V.ref p.1))) : CouplesAt H' D (CM.cSort cs) := by
  have e := sort_zip nd hl hp hs
  refine ⟨zs.map (·.1), by rw [hD, List.map_map]; rfl, ?_, fun j t ht => ?_⟩
  · have := congrArg List.length e
    simpa using this
  · rw [List.getElem?_map] at ht
    obtain ⟨z, hz, rfl⟩ := Option.map_eq_some_iff.mp ht
    have e1 : (zs.map (·.2))[j]? = some z.2 := by rw [List.getElem?_map, hz]; rfl
    rw [e, List.getElem?_map] at e1
    obtain ⟨c, hc, ec⟩ := Option.map_eq_some_iff.mp e1
    refine ⟨c, hc, kp _ _ ?_⟩
    obtain ⟨i, hi, ei⟩ := List.mem_iff_getElem.mp (hp.mem_iff.mp (List.mem_of_getElem? hz))
    have g := List.getElem?_eq_getElem hi
    rw [ei] at g
    obtain ⟨g1, g2⟩ := List.getElem?_zip_eq_some.mp g
    obtain ⟨c2, h4, h5⟩ := h3 i z.1 g1
    rw [List.getElem?_map, h4] at g2
    have g3 : toI c2 = z.2 := Option.some.inj g2
    rw [← ec] at g3
    have : c2 = c := by
      unfold toI at g3
      injection g3 with g4 g5
      have g4 : (c2.1 : Int) = (c.1 : Int) := g4
      have g5 : (c2.2 : Int) = (c.2 : Int) := g5
      exact Prod.ext (by omega) (by omega)
    rw [← this]
    exact h5
theorem ok_byb (T : Txt K mg a) {c P' : Addr} (hcd : a.dByB.code = .ref c) (C : PySem.W.CodeHd base c P') (hB : base.BuiltinsAt mg P') : FnOk P w K mg base CX0 3 a.fByB a.dByB ["self"] (spByB a P') := by
  refine Fun.okC T.FByB scByB (fun vs H Q E h => ?_) (fun A outer s H vs Q E hr h => ?_)
  · obtain ⟨q, lc, r, rfl, _⟩ := h
    rfl
  · obtain ⟨u, lc, r, rfl, R, g, tb, q⟩ := h
    obtain ⟨n, cs⟩ := r
    obtain ⟨dq, hq⟩ := R.ins
    obtain ⟨ts, h1, h2, h3⟩ := R.cp
    refine ⟨_, pss_one (ps_ret (pe_sortedK (k := 0) (qual := qByB) hr rfl T.z_sorted (pa_cons (pe_fld (pv 0) rfl) pa_nil) (pe_lam2 hcd C hB rfl rfl) rfl rfl rfl (by decide +kernel) rfl (by decide) (fun _ _ _ _ => rfl))), ?_⟩
    try dsimp only [L2.cxOf]
    refine ⟨_, rfl, u, a.CR, dq, _, _, rfl, hq, T.cCR, T.nCR_couples, rf_couples, ?_⟩
    have hts : ∀ {H2 : Hp}, (∀ b xs, H b = some (.tup xs) → H2 b = some (.tup xs)) → ∀ (i : Nat) t c, ts[i]? = some t → (cs.map toI)[i]? = some c → H2 t = some (.tup [.int c.1, .int c.2]) := fun k i t c e1 e2 => by
      obtain ⟨c2, e3, e4⟩ := h3 i t e1
      rw [List.getElem?_map, e3] at e2
      obtain rfl : toI c2 = c := Option.some.inj e2
      exact k _ _ e4
    have hll : ts.length = (cs.map toI).length := by rw [List.length_map]; exact h2
    rcases tb with hP | ⟨c1, hP, hc1⟩
    · refine ⟨#[], hP, trivial, .inl ⟨rfl, fun f c' ctv hf hc' nfc => ?_⟩⟩
      have kp : ∀ (b : Addr) (u : HO) (o1 o2 o3 : HO), H b = some u → b ≠ P' → upd (upd (upd H P' o1) c' o2) f o3 b = some u := fun b u o1 o2 o3 e n => by
        rw [upd_ne (ne_of_none e hf), upd_ne (ne_of_none e hc'), upd_ne n]; exact e
      have kt : ∀ (b : Addr) (xs : List V) (o1 o2 o3 : HO), H b = some (.tup xs) → upd (upd (upd H P' o1) c' o2) f o3 b = some (.tup xs) := fun b xs o1 o2 o3 e => kp b (.tup xs) _ _ _ e (ne_of e hP (by intro z; cases z))
      refine ⟨lc, f, c', ts, cs.map toI, _, ctv, rfl, rfl, upd_same, (by rw [upd_ne nfc.symm, upd_same]; rfl), SqL.of (kp _ _ _ _ _ h1 (ne_of h1 hP (by intro z; cases z))), hll, hts (fun b xs e => kt b xs _ _ _ e), fun D zs hD hp hs => ?_⟩
      have nD : ∀ b u, H b = some u → b ≠ P' → b ≠ D := fun b u e n z => by
        have hD' := hD
        rw [← z] at hD'
        exact nomatch ((kp b u _ _ _ e n).symm.trans hD')
      have hP1 : ∀ o1 o2 o3, upd (upd (upd H P' o1) c' o2) f o3 P' = some o1 := fun o1 o2 o3 => by
        rw [upd_ne (ne_of_none hP hf), upd_ne (ne_of_none hP hc'), upd_same]
      have nDP : P' ≠ D := fun z => by
        have hD' := hD
        rw [← z] at hD'
        exact nomatch ((hP1 _ _ _).symm.trans hD')
      have nDc : c' ≠ D := fun z => by
        rw [← z, upd_ne nfc.symm, upd_same] at hD
        cases hD
      have hDH : H D = none := by
        cases e : H D with
        | none => rfl
        | some u => exact absurd rfl (nD D u e (Ne.symm nDP))
      refine q _ D hDH (couples_sorted g.ok.nd h2 h3 hp hs (fun b xs e => ?_) upd_same) (.inr ⟨c', ?_, ?_⟩) (fun b u e n => ?_)
      · rw [upd_ne (nD b _ e (ne_of e hP (by intro z; cases z)))]
        exact kt b xs _ _ _ e
      · rw [upd_ne nDP]
        exact hP1 _ _ _
      · rw [upd_ne nDc, upd_ne nfc.symm, upd_same]; rfl
      · rw [upd_ne (nD b u e n)]
        exact kp b u _ _ _ e n
    · refine ⟨_, hP, trivial, .inr ⟨c1, codeAmong_snoc (pos := pByB) [] trivial rfl, fun f ctv hf => ?_⟩⟩
      have sm : ∀ o : HO, Same H (upd H f o) := fun o => same_new hf
      refine ⟨lc, f, c1, ts, cs.map toI, _, ctv, rfl, rfl, upd_same, sm _ _ _ hc1, SqL.of (sm _ _ _ h1), hll, hts (fun b xs e => sm _ _ _ e), fun D zs hD hp hs => ?_⟩
      have s2 := (sm _).trans (same_new (o := .lst (zs.map fun p => V.ref p.1)) hD)
      have hDH : H D = none := by
        cases e : H D with
        | none => rfl
        | some u => exact nomatch ((sm _ _ _ e).symm.trans hD)
      exact q _ D hDH (couples_sorted g.ok.nd h2 h3 hp hs (fun b xs e => s2 _ _ e) upd_same) (.inr ⟨c1, s2 _ _ hP, s2 _ _ hc1⟩) (But.same s2)
end
/-! ### one_text -/
def raceYs (n : Nat) (cs : List (Nat × Nat)) : List Str := [("race" : Str), numS n] ++ cs.flatMap fun c => [("couple" : Str), numS c.1, numS c.2]
def raceBs (n : Nat) (cs : List (Nat × Nat)) : List Tote.Bytes := [Tote.ascii "race", Tote.decimal n] ++ cs.flatMap fun (c : Nat × Nat) => [Tote.ascii "couple", Tote.decimal c.1, Tote.decimal c.2]
theorem gs_race : GoodS "race" := ⟨by decide +kernel, by decide +kernel⟩
theorem gs_couple : GoodS "couple" := ⟨by decide +kernel, by decide +kernel⟩
theorem WS.str {s : String} {ys : List Str} {bs : List Tote.Bytes} (g : GoodS s) (l : (Str.ofString s).length ≤ 6) (t : WS ys bs) : WS (Str.ofString s :: ys) (Tote.ascii s :: bs) := WS.cons (as_tl g) l t
theorem WS.num {n : Nat} {ys : List Str} {bs : List Tote.Bytes} (h : n ≤ 20000) (t : WS ys bs) : WS (numS n :: ys) (Tote.decimal n :: bs) := WS.cons (num_tl n) (num_len h) t
theorem couples_ws : ∀ {cs : List (Nat × Nat)}, (∀ c ∈ cs, c.1 ≤ 24 ∧ c.2 ≤ 24) → WS (cs.flatMap fun c => [("couple" : Str), numS c.1, numS c.2]) (cs.flatMap fun (c : Nat × Nat) => [Tote.ascii "couple", Tote.decimal c.1, Tote.decimal c.2])
  | [], _ => .nil
  | c :: cs, h => by
    have h1 := h c List.mem_cons_self
    rw [List.flatMap_cons, List.flatMap_cons]
    exact WS.append (.str gs_couple (by decide +kernel) (.num (by omega) (.num (by omega) .nil))) (couples_ws fun x hx => h x (List.mem_cons_of_mem _ hx))
theorem race_ws {n : Nat} {cs : List (Nat × Nat)} (hn : n ≤ 24) (h : ∀ c ∈ cs, c.1 ≤ 24 ∧ c.2 ≤ 24) : WS (raceYs n cs) (raceBs n cs) :=
  WS.append (.str gs_race (by decide +kernel) (.num (by omega) .nil)) (couples_ws h)
theorem raceYs_len (n : Nat) : ∀ (cs : List (Nat × Nat)), (raceYs n cs).length = 2 + 3 * cs.length := by
  intro cs
  unfold raceYs
  rw [List.length_append]
  have : ∀ cs : List (Nat × Nat), (cs.flatMap fun c => [("couple" : Str), numS c.1, numS c.2]).length = 3 * cs.length := by
    intro cs
    induction cs with
    | nil => rfl
    | cons c cs ih =>
      rw [List.flatMap_cons, List.length_append, ih]
      simp only [List.length_cons, List.length_nil]
      omega
  rw [this]
  rfl
theorem I8_app (a b : Tote.Bytes) : CM.I8 (a ++ b) = CM.I8 a ++ CM.I8 b := List.map_append
def raceT (r : CM.PRace) : Tote.Bytes := Tote.raceText (CM.toRace r)
theorem raceT_is (r : CM.PRace) : CM.I8 (raceT r) = CM.I8 (((raceBs r.1 (CM.cSort r.2)).intersperse [32]).flatten) ++ [10] := by
  show CM.I8 (((raceBs r.1 (CM.cSort r.2)).intersperse [32]).flatten ++ [10]) = _
  rw [I8_app]
  rfl
def kindS : Tote.Kind → String
  | .place => "place"
  | .order => "order"
  | .any => "any"
  | .legs => "legs"
def noneS : Tote.None_ → String
  | .refund => "refund"
  | .carry => "carry"
  | .fewer => "fewer"
theorem at_kinds (k : Tote.Kind) : atI [V.str "place", .str "order", .str "any", .str "legs"] (kindNo k : Int) = some (.str (Str.ofString (kindS k))) := by cases k <;> rfl
theorem at_nones (k : Tote.None_) : atI [V.str "refund", .str "carry", .str "fewer"] (noneNo k : Int) = some (.str (Str.ofString (noneS k))) := by cases k <;> rfl
theorem kind_gs (k : Tote.Kind) : GoodS (kindS k) ∧ (Str.ofString (kindS k)).length ≤ 6 ∧ Tote.kindText k = Tote.ascii (kindS k) := by
  cases k <;> exact ⟨⟨by decide +kernel, by decide +kernel⟩, by decide +kernel, rfl⟩
theorem none_gs (k : Tote.None_) : GoodS (noneS k) ∧ (Str.ofString (noneS k)).length ≤ 6 ∧ Tote.noneText k = Tote.ascii (noneS k) := by
  cases k <;> exact ⟨⟨by decide +kernel, by decide +kernel⟩, by decide +kernel, rfl⟩
def poolYs (p : Tote.Pool) : List Str := [Str.ofString (kindS p.kind), numS p.k, ("from" : Str), numS p.race] ++ [("take" : Str), numS p.take, ("break" : Str), numS p.brk] ++ [("least" : Str), numS p.least, ("unit" : Str), numS p.unit] ++ [("none" : Str), Str.ofString (noneS p.none_)]
def poolBs (p : Tote.Pool) : List Tote.Bytes := [Tote.kindText p.kind, Tote.decimal p.k, Tote.ascii "from", Tote.decimal p.race, Tote.ascii "take", Tote.decimal p.take, Tote.ascii "break", Tote.decimal p.brk, Tote.ascii "least", Tote.decimal p.least, Tote.ascii "unit", Tote.decimal p.unit, Tote.ascii "none", Tote.noneText p.none_]
theorem gs_least : GoodS "least" := ⟨by decide +kernel, by decide +kernel⟩
theorem gs_unit : GoodS "unit" := ⟨by decide +kernel, by decide +kernel⟩
theorem gs_none : GoodS "none" := ⟨by decide +kernel, by decide +kernel⟩
theorem gs_pool : GoodS "pool " := ⟨by decide +kernel, by decide +kernel⟩
theorem gs_day : GoodS "day " := ⟨by decide +kernel, by decide +kernel⟩
theorem pool_ws {p : Tote.Pool} (g : GoodP p) : WS (poolYs p) (poolBs p) := by
  have h1 := g.k
  have h2 := g.race
  have h3 := g.take
  have h4 := g.brk
  have h5 := g.least
  have h6 := g.unit
  obtain ⟨k1, k2, k3⟩ := kind_gs p.kind
  obtain ⟨n1, n2, n3⟩ := none_gs p.none_
  unfold poolBs
  rw [k3, n3]
  exact .str k1 k2 (.num (by omega) (.str g_from (by decide +kernel) (.num (by omega) (.str g_take (by decide +kernel) (.num (by omega) (.str g_break (by decide +kernel) (.num (by omega)
    (.str gs_least (by decide +kernel) (.num h5 (.str gs_unit (by decide +kernel) (.num (by omega) (.str gs_none (by decide +kernel) (.str n1 n2 .nil)))))))))))))
theorem poolT_is (p : Tote.Pool) : CM.I8 (Tote.poolText p) = CM.I8 (Tote.ascii "pool ") ++ CM.I8 p.name ++ [32] ++ CM.I8 (((poolBs p).intersperse [32]).flatten) ++ [10] := by
  have e : Tote.poolText p = Tote.ascii "pool " ++ p.name ++ [32] ++ ((poolBs p).intersperse [32]).flatten ++ [10] := by
    show ((Tote.ascii "pool" :: p.name :: poolBs p).intersperse [32]).flatten ++ [10] = _
    have e1 : Tote.ascii "pool " = Tote.ascii "pool" ++ [32] := by decide +kernel
    rw [e1, List.intersperse_cons₂]
    show (Tote.ascii "pool" ++ ([32] ++ (p.name ++ ([32] ++ ((poolBs p).intersperse [32]).flatten)))) ++ [10] = _
    simp only [List.append_assoc]
  rw [e, I8_app, I8_app, I8_app, I8_app]
  rfl
def cardT (n : Tote.Bytes) (rs : List CM.PRace) (ps : List Tote.Pool) : Tote.Bytes := (Tote.ascii "day " ++ n ++ [10]) ++ (rs.flatMap raceT ++ ps.flatMap Tote.poolText)
theorem cardT_is (n : Tote.Bytes) (rs : List CM.PRace) (ps : List Tote.Pool) : Tote.Card.text ⟨n, rs.map CM.toRace, ps⟩ = cardT n rs ps := by
  unfold Tote.Card.text cardT
  rw [List.flatMap_map]
  have e1 : Tote.ascii "day " = Tote.ascii "day" ++ [32] := by decide +kernel
  rw [e1]
  show (Tote.ascii "day" ++ ([32] ++ (n ++ []))) ++ [10] ++ _ = _
  rw [List.append_nil, List.append_assoc (Tote.ascii "day") [32] n]
  rfl
def ansO (t : Tote.Bytes) : List Int := if 65536 < t.length then [-2] else match Tote.readCard t with
  | .error _ => [-6]
  | .ok C => 0 :: CM.I8 C.text
theorem pf_kind {x : Addr} {kd k r t b m u z : Int} : (pf x kd k r t b m u z).lookup ("kind" : Str) = some (.int kd) := lk_pre (pre := [("name", .ref x)]) (show ¬ (("kind" : Str) ∈ (["name"] : List Str)) from by decide +kernel)
theorem pf_k {x : Addr} {kd k r t b m u z : Int} : (pf x kd k r t b m u z).lookup ("k" : Str) = some (.int k) := lk_pre (pre := [("name", .ref x), ("kind", .int kd)]) (show ¬ (("k" : Str) ∈ (["name", "kind"] : List Str)) from by decide +kernel)
theorem pf_race {x : Addr} {kd k r t b m u z : Int} : (pf x kd k r t b m u z).lookup ("race" : Str) = some (.int r) := lk_pre (pre := [("name", .ref x), ("kind", .int kd), ("k", .int k)]) (show ¬ (("race" : Str) ∈ (["name", "kind", "k"] : List Str)) from by decide +kernel)
theorem pf_take {x : Addr} {kd k r t b m u z : Int} : (pf x kd k r t b m u z).lookup ("take" : Str) = some (.int t) := lk_pre (pre := [("name", .ref x), ("kind", .int kd), ("k", .int k), ("race", .int r)]) (show ¬ (("take" : Str) ∈ (["name", "kind", "k", "race"] : List Str)) from by decide +kernel)
theorem pf_brk {x : Addr} {kd k r t b m u z : Int} : (pf x kd k r t b m u z).lookup ("brk" : Str) = some (.int b) := lk_pre (pre := [("name", .ref x), ("kind", .int kd), ("k", .int k), ("race", .int r), ("take", .int t)]) (show ¬ (("brk" : Str) ∈ (["name", "kind", "k", "race", "take"] : List Str)) from by decide +kernel)
theorem pf_least {x : Addr} {kd k r t b m u z : Int} : (pf x kd k r t b m u z).lookup ("least" : Str) = some (.int m) := lk_pre (pre := [("name", .ref x), ("kind", .int kd), ("k", .int k), ("race", .int r), ("take", .int t), ("brk", .int b)]) (show ¬ (("least" : Str) ∈ (["name", "kind", "k", "race", "take", "brk"] : List Str)) from by decide +kernel)
theorem pf_unit {x : Addr} {kd k r t b m u z : Int} : (pf x kd k r t b m u z).lookup ("unit" : Str) = some (.int u) := lk_pre (pre := [("name", .ref x), ("kind", .int kd), ("k", .int k), ("race", .int r), ("take", .int t), ("brk", .int b), ("least", .int m)]) (show ¬ (("unit" : Str) ∈ (["name", "kind", "k", "race", "take", "brk", "least"] : List Str)) from by decide +kernel)
theorem pf_none {x : Addr} {kd k r t b m u z : Int} : (pf x kd k r t b m u z).lookup ("none" : Str) = some (.int z) := lk_pre (pre := [("name", .ref x), ("kind", .int kd), ("k", .int k), ("race", .int r), ("take", .int t), ("brk", .int b), ("least", .int m), ("unit", .int u)]) (show ¬ (("none" : Str) ∈ (["name", "kind", "k", "race", "take", "brk", "least", "unit"] : List Str)) from by decide +kernel)

inductive SpRText (a : Ad) (P' : Addr) (vs : List V) (H : Hp) (Q : VK) (E : XK) : Prop
  | mk (q lc : Addr) (r : CM.PRace) (h0 : vs = [.ref q]) (h1 : RaceAt a.CR H q lc r) (h2 : GoodR r) (h3 : Tab P' H) (h4 : ∀ (H' : Hp) (l : Addr), H' l = some (.lst ((CM.I8 (raceT r)).map V.int)) → Tab P' H' → But P' H H' → Q (.ref l) H') : SpRText a P' vs H Q E
abbrev spRText (a : Ad) (P' : Addr) : Sp := fun vs H Q E => SpRText a P' vs H Q E
inductive SpPText (a : Ad) (vs : List V) (H : Hp) (Q : VK) (E : XK) : Prop
  | mk (y x : Addr) (o : Tote.Pool) (h0 : vs = [.ref y]) (h1 : PoolAt a.CP H y x o) (h2 : GoodP o) (h3 : ∀ (H' : Hp) (l : Addr), H' l = some (.lst ((CM.I8 (Tote.poolText o)).map V.int)) → Same H H' → Q (.ref l) H') : SpPText a vs H Q E
abbrev spPText (a : Ad) : Sp := fun vs H Q E => SpPText a vs H Q E
inductive SpCText (a : Ad) (P' : Addr) (vs : List V) (H : Hp) (Q : VK) (E : XK) : Prop
  | mk (c : Addr) (n : Tote.Bytes) (rs : List CM.PRace) (ps : List Tote.Pool) (h0 : vs = [.ref c]) (h1 : CardAt a H c n rs ps) (h2 : Tab P' H) (h3 : ∀ (H' : Hp) (l : Addr), H' l = some (.lst ((CM.I8 (cardT n rs ps)).map V.int)) → But P' H H' → Q (.ref l) H') : SpCText a P' vs H Q E
abbrev spCText (a : Ad) (P' : Addr) : Sp := fun vs H Q E => SpCText a P' vs H Q E
inductive SpCOne (K : PySem.W.Frag) (P' P2 : Addr) (vs : List V) (H : Hp) (Q : VK) (E : XK) : Prop
  | mk (x : Addr) (t : Tote.Bytes) (h0 : vs = [.ref x]) (h1 : SqL K H x ((CM.I8 t).map V.int)) (h2 : H P' = some (.tbl #[])) (h2b : H P2 = some (.tbl #[])) (h3 : ∀ (H' : Hp) (l : Addr), H' l = some (.lst ((ansO t).map V.int)) → Q (.ref l) H') : SpCOne K P' P2 vs H Q E
abbrev spCOne (K : PySem.W.Frag) (P' P2 : Addr) : Sp := fun vs H Q E => SpCOne K P' P2 vs H Q E
theorem rb_no {n : Int} {lc : Addr} : (rf n lc).lookup ("couples_by_b" : Str) = none := lk_no (show ¬ (("couples_by_b" : Str) ∈ (["runners", "couples"] : List Str)) from by decide +kernel)
theorem raceT_len {r : CM.PRace} (g : GoodR r) : (raceT r).length ≤ 183 := by
  have h1 := (race_ws (n := r.1) (cs := CM.cSort r.2) g.run (fun c hc => by
    have := g.ok.at_ c ((CM.cSort_perm r.2).mem_iff.mp hc)
    have := g.run
    omega)).flen
  have h2 := congrArg List.length (raceT_is r)
  rw [raceYs_len, CM.cSort_len] at h1
  rw [CM.I8_len, List.length_append, CM.I8_len] at h2
  have h3 := g.few
  have h4 : ([10] : List Int).length = 1 := rfl
  omega
theorem poolT_len {p : Tote.Pool} (g : GoodP p) : (Tote.poolText p).length ≤ 200 := by
  have h1 := (pool_ws g).flen
  have h2 := congrArg List.length (poolT_is p)
  have h5 : (poolYs p).length = 14 := rfl
  rw [h5] at h1
  simp only [CM.I8_len, List.length_append] at h2
  have h3 := g.nm
  have h4 : ([10] : List Int).length = 1 := rfl
  have h6 : ([32] : List Int).length = 1 := rfl
  have h7 : (Tote.ascii "pool ").length = 5 := by decide +kernel
  omega
section
variable {P : Program} {w : World} {K : PySem.W.Frag} {mg : Str → Option Value} {base : Heap} {a : Ad}
theorem scRText : FnScope ["race", "words", "couple"] ["race"] (defScope sRText) := FnScope.of (by decide +kernel)
theorem ok_rtext (T : Txt K mg a) {c9 P' : Addr} (hcd : a.dByB.code = .ref c9) (C : PySem.W.CodeHd base c9 P') (hB : base.BuiltinsAt mg P') : FnOk P w K mg base CX0 4 a.fRText a.dRText ["race"] (spRText a P') := by
  refine T.FRText.ok scRText (fun vs H Q E h => ?_) (fun cdv A outer s H vs Q E hr h => ?_)
  · obtain ⟨u, lc, r, rfl, _⟩ := h
    rfl
  · obtain ⟨u, lc, r, rfl, R, g, tb, q⟩ := h
    obtain ⟨du, hui⟩ := R.ins
    have hrun := g.run
    have hfew := g.few
    have hcs : ∀ c ∈ CM.cSort r.2, c.1 ≤ 24 ∧ c.2 ≤ 24 := fun c hc => by
      have := g.ok.at_ c ((CM.cSort_perm r.2).mem_iff.mp hc)
      omega
    refine ⟨_, pss_cons (ps_set (i := 1) scRText.nd rfl (Or.inl rfl) (pe_lst (pa_cons pe_str (pa_cons (pe_callTy call_str_int rfl T.z_str PyProof.Rows.boot_str (pa_cons (pe_fld (pv 0) rfl) pa_nil)) pa_nil))))
      (pss_cons (ps_for PassesOwn.never rfl (pi_list (pe_meth0 (pv 0) T.cCR T.mByB (ok_byb T hcd C hB) hr T.bByB .nil pass0)) (pg_name (i := 2) scRText.nd rfl (Or.inl rfl))
        (pss_one (ps_expr (pe_bm PySem.F.plainAttrs_list PySem.F.slot_list_extend PySem.F.type_list_extend mt_extend (pv 1) (pa_cons (pe_lst (pa_cons pe_str (pa_cons (pe_callTy call_str_int rfl T.z_str PyProof.Rows.boot_str (pa_cons (pe_ix (r := rIxT K) ix_tup (pv 2) pe_int (fun _ _ => rfl)) pa_nil)) (pa_cons (pe_callTy call_str_int rfl T.z_str PyProof.Rows.boot_str (pa_cons (pe_ix (r := rIxT K) ix_tup (pv 2) pe_int (fun _ _ => rfl)) pa_nil)) pa_nil)))) pa_nil)))))
      (pss_one (ps_ret (pe_op op_cat (pe_call (ok_bytes T) (hr.mono (by decide)) rfl T.gBytes T.FBytes.kp T.bBytes .nil pass0 (pa_cons (pe_join pe_str (pv 1)) pa_nil)) (pe_lst (pa_cons (pe_gi rfl T.v_NL) pa_nil)))))), ?_⟩
    try dsimp only [L2.cxOf]
    refine ⟨_, rfl, u, a.CR, du, _, _, rfl, hui, T.cCR, T.nCR_runners, rf_runners, _, rfl, log_ok (by omega), (by show 2 ≤ sizeLine; decide), fun l1 hl1 => ?_⟩
    have s1 := same_new (o := .lst [.str "race", .str (numS r.1)]) hl1
    have hl3 := upd_same (H := H) (a := l1) (o := .lst [.str "race", .str (numS r.1)])
    have tb3 := tb.mono (H' := upd H l1 (.lst [.str "race", .str (numS r.1)])) fun b o e _ => s1 _ _ e
    refine ⟨_, rfl, u, du, _, rfl, s1 _ _ hui, rb_no, u, lc, r, rfl, R.keep (Keep.same s1), g, tb3, fun H4 l hln hC4 tb4 bt4 => ?_⟩
    obtain ⟨zs, z1, z2, z3⟩ := hC4
    obtain ⟨ps3, hps3⟩ := tb3.tbl
    have hl4 : H4 l1 = some (.lst [.str "race", .str (numS r.1)]) := bt4 _ _ hl3 (fun z => by rw [← z, hl3] at hps3; cases hps3)
    have nl : l ≠ l1 := fun z => by rw [z] at hln; exact nomatch (hl3.symm.trans hln)
    refine ⟨l, rfl, ⟨_, SqL.of z1⟩, for_list (K := K) (a := l) (xs := zs.map V.ref) (fun j σ H5 => ∃ w : Option V, σ = [some (.ref u), some (.ref l1), w] ∧ (∀ b o, H4 b = some o → b ≠ l1 → H5 b = some o) ∧ H5 l1 = some (.lst ((raceYs r.1 ((CM.cSort r.2).take j)).map V.str)))
      ⟨_, rfl, fun b o e _ => e, hl4⟩ (fun j σ H5 _ ⟨_, _, kk, _⟩ => SqL.of (kk _ _ z1 nl)) ?_ ?_⟩
    · rintro j v' σ H5 hj ⟨w', rfl, kk, hl5⟩
      obtain ⟨t, ht, rfl⟩ : ∃ t, zs[j]? = some t ∧ V.ref t = v' := by
        rw [List.getElem?_map] at hj
        exact Option.map_eq_some_iff.mp hj
      obtain ⟨cc, hcc, hT⟩ := z3 j t ht
      have hT5 := kk _ _ hT (ne_of hT hl4 (by intro z; cases z))
      have hc24 := hcs cc (List.mem_of_getElem? hcc)
      refine ⟨_, rfl, .inl ⟨rfl, _, SqL.of hl5⟩, _, rfl, t, [.int cc.1, .int cc.2], 0, .int cc.1, rfl, rfl, SqT.of hT5, rfl, _, rfl, log_ok (by omega), _, rfl, t, [.int cc.1, .int cc.2], 1, .int cc.2, rfl, rfl, SqT.of hT5, rfl, _, rfl, log_ok (by omega), (by show 3 ≤ sizeLine; decide), fun l2 hl2 => ?_⟩
      have n12 : l1 ≠ l2 := ne_of_none hl5 hl2
      refine ⟨l1, l2, _, _, rfl, rfl, by rw [upd_ne n12]; exact hl5, upd_same, ?_, _, rfl, ?_, ?_⟩
      · rw [List.length_map, raceYs_len, List.length_take, CM.cSort_len, sizeLine_eq]
        show _ + 3 ≤ _
        omega
      · intro b o e n
        rw [upd_ne n, upd_ne (ne_of_none (kk _ _ e n) hl2)]
        exact kk _ _ e n
      · rw [upd_same, List.take_add_one, hcc]
        unfold raceYs
        simp [List.flatMap_append]
        exact ⟨rfl, rfl⟩
    · rintro σ H5 ⟨w', rfl, kk, hl5⟩
      rw [List.length_map, z2, List.take_length] at hl5
      have ws := race_ws (n := r.1) hrun hcs
      have hyl : (raceYs r.1 (CM.cSort r.2)).length ≤ 26 := by
        rw [raceYs_len, CM.cSort_len]
        omega
      have hj1 := ws.len
      refine ⟨⟨_, rfl⟩, _, rfl, " ", l1, raceYs r.1 (CM.cSort r.2), rfl, rfl, .inl (SqL.of hl5), ?_, _, rfl, ?_, fun H6 x hx sm hv => ⟨(by show 1 ≤ sizeLine; decide), fun l7 hl7 => ?_⟩⟩
      · have h2 := sum_le ws.few
        have h3 : ((" " : Str)).length = 1 := rfl
        rw [h3]
        omega
      · show (Txt.join " " _).length ≤ 1000
        omega
      rw [ws.ints] at hv
      have s7 := same_new (o := .lst [.int 10]) hl7
      refine ⟨x, l7, _, _, rfl, rfl, s7 _ _ hv, upd_same, ?_, fun p hp => q _ p ?_ ?_ ?_⟩
      · rw [List.length_map, CM.I8_len, sizeLine_eq]
        have := ws.flen
        show _ + 1 ≤ _
        omega
      · rw [upd_same, raceT_is, List.map_append]
        rfl
      · refine (tb4.mono fun b o e n => kk _ _ e (fun z => by rw [z, hl4] at e; cases e; exact n _ rfl)).mono fun b o e _ => ?_
        exact same_new hp _ _ (s7 _ _ (sm _ _ e))
      · intro b o e n
        exact same_new hp _ _ (s7 _ _ (sm _ _ (kk _ _ (bt4 _ _ (s1 _ _ e) n) (ne_of_none e hl1))))
theorem scPText : FnScope ["pool", "words"] ["pool"] (defScope sPText) := FnScope.of (by decide +kernel)
theorem ok_ptext (T : Txt K mg a) : FnOk P w K mg base CX0 2 a.fPText a.dPText ["pool"] (spPText a) := by
  refine T.FPText.ok scPText (fun vs H Q E h => ?_) (fun cdv A outer s H vs Q E hr h => ?_)
  · obtain ⟨y, x, o, rfl, _⟩ := h
    rfl
  · obtain ⟨y, x, o, rfl, ⟨⟨dy, hy⟩, hx⟩, g, q⟩ := h
    have b1 := g.k
    have b2 := g.race
    have b3 := g.take
    have b4 := g.brk
    have b5 := g.least
    have b6 := g.unit
    have b7 := g.nm
    have hx : H x = some (.lst ((CM.I8 o.name).map V.int)) := hx
    have ws := pool_ws g
    have hj1 := ws.len
    have hj2 := ws.flen
    have h14 : (poolYs o).length = 14 := rfl
    rw [h14] at hj1 hj2
    obtain ⟨t5, p5, q5⟩ : ∃ t, PSs (cxOf CX0 P w K mg base ["pool", "words"] "pool_text" (defScope sPText) a.fPText cdv A outer s H E).nox ((defBody sPText).drop 4) t ∧ ∀ (D : Ends) (H1 : Hp) (l1 : Addr), Same H H1 → H1 l1 = some (.lst ((poolYs o).map V.str)) → (∀ (H2 : Hp) (l : Addr), H2 l = some (.lst ((CM.I8 (Tote.poolText o)).map V.int)) → Same H H2 → D.rt (.ref l) H2) → t D [some (.ref y), some (.ref l1)] H1 := by
      refine ⟨_, pss_one (ps_ret (pe_op op_cat (pe_op op_cat (pe_op op_cat (pe_op op_cat (pe_call (ok_bytes T) (hr.mono (by decide)) rfl T.gBytes T.FBytes.kp T.bBytes .nil pass0 (pa_cons pe_str pa_nil)) (pe_fld (pv 0) rfl)) (pe_lst (pa_cons (pe_gi rfl T.v_BLANK) pa_nil)))
        (pe_call (ok_bytes T) (hr.mono (by decide)) rfl T.gBytes T.FBytes.kp T.bBytes .nil pass0 (pa_cons (pe_join pe_str (pv 1)) pa_nil))) (pe_lst (pa_cons (pe_gi rfl T.v_NL) pa_nil)))), fun D H1 l1 sm hw k => ?_⟩
      try dsimp only [L2.cxOf]
      refine ⟨_, rfl, gs_pool.1, fun H5 x5 hx5 sm5 hv5 => ?_⟩
      rw [gs_pool.ints] at hv5
      have s5 := sm.trans sm5
      refine ⟨_, rfl, y, a.CP, dy, _, _, rfl, s5 _ _ hy, T.cCP, T.nCP_name, pf_name, x5, x, _, _, rfl, rfl, hv5, s5 _ _ hx, ?_, fun c1 hc1 => ⟨(by show 1 ≤ sizeLine; decide), fun l6 hl6 => ?_⟩⟩
      · rw [List.length_map, List.length_map, CM.I8_len, CM.I8_len, sizeLine_eq]
        have : (Tote.ascii "pool ").length = 5 := by decide +kernel
        omega
      have u1 := upd_same (H := H5) (a := c1) (o := .lst ((CM.I8 (Tote.ascii "pool ")).map V.int ++ (CM.I8 o.name).map V.int))
      have s6 := (same_new (o := .lst ((CM.I8 (Tote.ascii "pool ")).map V.int ++ (CM.I8 o.name).map V.int)) hc1)
      have s7 := (same_new (o := .lst [.int 32]) hl6)
      refine ⟨c1, l6, _, _, rfl, rfl, s7 _ _ u1, upd_same, ?_, fun c2 hc2 => ?_⟩
      · rw [List.length_append, List.length_map, List.length_map, CM.I8_len, CM.I8_len, sizeLine_eq]
        have : (Tote.ascii "pool ").length = 5 := by decide +kernel
        show _ + 1 ≤ _
        omega
      have s8 := (same_new (o := .lst (((CM.I8 (Tote.ascii "pool ")).map V.int ++ (CM.I8 o.name).map V.int) ++ [.int 32])) hc2)
      have s58 := sm5.trans (s6.trans (s7.trans s8))
      have u2 := upd_same (H := upd (upd H5 c1 (.lst ((CM.I8 (Tote.ascii "pool ")).map V.int ++ (CM.I8 o.name).map V.int))) l6 (.lst [.int 32])) (a := c2) (o := .lst (((CM.I8 (Tote.ascii "pool ")).map V.int ++ (CM.I8 o.name).map V.int) ++ [.int 32]))
      generalize upd (upd (upd H5 c1 (.lst ((CM.I8 (Tote.ascii "pool ")).map V.int ++ (CM.I8 o.name).map V.int))) l6 (.lst [.int 32])) c2 (.lst (((CM.I8 (Tote.ascii "pool ")).map V.int ++ (CM.I8 o.name).map V.int) ++ [.int 32])) = H8 at *
      refine ⟨⟨_, rfl⟩, _, rfl, " ", l1, poolYs o, rfl, rfl, .inl (SqL.of (s58 _ _ hw)), ?_, _, rfl, ?_, fun H9 x9 hx9 sm9 hv9 => ?_⟩
      · have h2 := sum_le ws.few
        have h3 : ((" " : Str)).length = 1 := rfl
        rw [h3]
        omega
      · show (Txt.join " " _).length ≤ 1000
        omega
      rw [ws.ints] at hv9
      refine ⟨c2, x9, _, _, rfl, rfl, sm9 _ _ u2, hv9, ?_, fun c3 hc3 => ⟨(by show 1 ≤ sizeLine; decide), fun l8 hl8 => ?_⟩⟩
      · rw [List.length_append, List.length_append, List.length_map, List.length_map, List.length_map, CM.I8_len, CM.I8_len, CM.I8_len, sizeLine_eq]
        have : (Tote.ascii "pool ").length = 5 := by decide +kernel
        show _ + 1 + _ ≤ _
        omega
      have s9 := (same_new (o := .lst ((((CM.I8 (Tote.ascii "pool ")).map V.int ++ (CM.I8 o.name).map V.int) ++ [.int 32]) ++ (CM.I8 (((poolBs o).intersperse [32]).flatten)).map V.int)) hc3)
      have s10 := (same_new (o := .lst [.int 10]) hl8)
      have u3 := upd_same (H := H9) (a := c3) (o := .lst ((((CM.I8 (Tote.ascii "pool ")).map V.int ++ (CM.I8 o.name).map V.int) ++ [.int 32]) ++ (CM.I8 (((poolBs o).intersperse [32]).flatten)).map V.int))
      refine ⟨c3, l8, _, _, rfl, rfl, s10 _ _ u3, upd_same, ?_, fun p hp => k _ p ?_ (sm.trans (s58.trans (sm9.trans (s9.trans (s10.trans (same_new hp))))))⟩
      · rw [List.length_append, List.length_append, List.length_append, List.length_map, List.length_map, List.length_map, CM.I8_len, CM.I8_len, CM.I8_len, sizeLine_eq]
        have : (Tote.ascii "pool ").length = 5 := by decide +kernel
        show _ + 1 + _ + 1 ≤ _
        omega
      · rw [upd_same, poolT_is]
        simp only [List.map_append]
        rfl
    obtain ⟨t4, p4, q4⟩ : ∃ t, PSs (cxOf CX0 P w K mg base ["pool", "words"] "pool_text" (defScope sPText) a.fPText cdv A outer s H E).nox ((defBody sPText).drop 3) t ∧ ∀ (D : Ends) (H1 : Hp) (l1 : Addr), H l1 = none → Same H H1 → H1 l1 = some (.lst (([Str.ofString (kindS o.kind), numS o.k, ("from" : Str), numS o.race] ++ [("take" : Str), numS o.take, ("break" : Str), numS o.brk] ++ [("least" : Str), numS o.least, ("unit" : Str), numS o.unit]).map V.str)) → (∀ H2 : Hp, Same H H2 → H2 l1 = some (.lst (([Str.ofString (kindS o.kind), numS o.k, ("from" : Str), numS o.race] ++ [("take" : Str), numS o.take, ("break" : Str), numS o.brk] ++ [("least" : Str), numS o.least, ("unit" : Str), numS o.unit] ++ [("none" : Str), Str.ofString (noneS o.none_)]).map V.str)) → t5 D [some (.ref y), some (.ref l1)] H2) → t D [some (.ref y), some (.ref l1)] H1 := by
      refine ⟨_, pss_cons (ps_expr (pe_bm PySem.F.plainAttrs_list PySem.F.slot_list_extend PySem.F.type_list_extend mt_extend (pv 1) (pa_cons (pe_lst (pa_cons pe_str (pa_cons (pe_ix ix_tup (pe_gr rfl T.g_NONES) (pe_fld (pv 0) rfl) (fun _ _ => rfl)) pa_nil))) pa_nil))) p5, fun D H1 l1 hn sm hw k => ?_⟩
      try dsimp only [L2.cxOf]
      have hy1 := sm _ _ hy
      refine ⟨_, rfl, .inl ⟨rfl, _, SqL.of hw⟩, _, rfl, y, a.CP, dy, _, _, rfl, hy1, T.cCP, T.nCP_none, pf_none, a.hNONES, _, _, _, rfl, rfl, T.t_NONES _, at_nones o.none_, (by show 2 ≤ sizeLine; decide), fun l2 hl2 => ?_⟩
      have n12 : l1 ≠ l2 := ne_of_none hw hl2
      refine ⟨l1, l2, _, _, rfl, rfl, by rw [upd_ne n12]; exact hw, upd_same, (by rw [List.length_map, sizeLine_eq]; simp), k _ (fun b u e => ?_) ?_⟩
      · rw [upd_ne (ne_of_none e hn), upd_ne (ne_of_none (sm _ _ e) hl2)]
        exact sm _ _ e
      · rw [upd_same, List.map_append]
        rfl
    obtain ⟨t3, p3, q3⟩ : ∃ t, PSs (cxOf CX0 P w K mg base ["pool", "words"] "pool_text" (defScope sPText) a.fPText cdv A outer s H E).nox ((defBody sPText).drop 2) t ∧ ∀ (D : Ends) (H1 : Hp) (l1 : Addr), H l1 = none → Same H H1 → H1 l1 = some (.lst (([Str.ofString (kindS o.kind), numS o.k, ("from" : Str), numS o.race] ++ [("take" : Str), numS o.take, ("break" : Str), numS o.brk]).map V.str)) → (∀ H2 : Hp, Same H H2 → H2 l1 = some (.lst (([Str.ofString (kindS o.kind), numS o.k, ("from" : Str), numS o.race] ++ [("take" : Str), numS o.take, ("break" : Str), numS o.brk] ++ [("least" : Str), numS o.least, ("unit" : Str), numS o.unit]).map V.str)) → t4 D [some (.ref y), some (.ref l1)] H2) → t D [some (.ref y), some (.ref l1)] H1 := by
      refine ⟨_, pss_cons (ps_expr (pe_bm PySem.F.plainAttrs_list PySem.F.slot_list_extend PySem.F.type_list_extend mt_extend (pv 1) (pa_cons (pe_lst (pa_cons pe_str (pa_cons (pe_callTy call_str_int rfl T.z_str PyProof.Rows.boot_str (pa_cons (pe_fld (pv 0) rfl) pa_nil)) (pa_cons pe_str (pa_cons (pe_callTy call_str_int rfl T.z_str PyProof.Rows.boot_str (pa_cons (pe_fld (pv 0) rfl) pa_nil)) pa_nil))))) pa_nil))) p4, fun D H1 l1 hn sm hw k => ?_⟩
      try dsimp only [L2.cxOf]
      have hy1 := sm _ _ hy
      refine ⟨_, rfl, .inl ⟨rfl, _, SqL.of hw⟩, _, rfl, y, a.CP, dy, _, _, rfl, hy1, T.cCP, T.nCP_least, pf_least, _, rfl, log_ok (by omega), _, rfl, y, a.CP, dy, _, _, rfl, hy1, T.cCP, T.nCP_unit, pf_unit, _, rfl, log_ok (by omega), (by show 4 ≤ sizeLine; decide), fun l2 hl2 => ?_⟩
      have n12 : l1 ≠ l2 := ne_of_none hw hl2
      refine ⟨l1, l2, _, _, rfl, rfl, by rw [upd_ne n12]; exact hw, upd_same, (by rw [List.length_map, sizeLine_eq]; simp), k _ (fun b u e => ?_) ?_⟩
      · rw [upd_ne (ne_of_none e hn), upd_ne (ne_of_none (sm _ _ e) hl2)]
        exact sm _ _ e
      · rw [upd_same, List.map_append]
        rfl
    obtain ⟨t2, p2, q2⟩ : ∃ t, PSs (cxOf CX0 P w K mg base ["pool", "words"] "pool_text" (defScope sPText) a.fPText cdv A outer s H E).nox ((defBody sPText).drop 1) t ∧ ∀ (D : Ends) (H1 : Hp) (l1 : Addr), H l1 = none → Same H H1 → H1 l1 = some (.lst (([Str.ofString (kindS o.kind), numS o.k, ("from" : Str), numS o.race]).map V.str)) → (∀ H2 : Hp, Same H H2 → H2 l1 = some (.lst (([Str.ofString (kindS o.kind), numS o.k, ("from" : Str), numS o.race] ++ [("take" : Str), numS o.take, ("break" : Str), numS o.brk]).map V.str)) → t3 D [some (.ref y), some (.ref l1)] H2) → t D [some (.ref y), some (.ref l1)] H1 := by
      refine ⟨_, pss_cons (ps_expr (pe_bm PySem.F.plainAttrs_list PySem.F.slot_list_extend PySem.F.type_list_extend mt_extend (pv 1) (pa_cons (pe_lst (pa_cons pe_str (pa_cons (pe_callTy call_str_int rfl T.z_str PyProof.Rows.boot_str (pa_cons (pe_fld (pv 0) rfl) pa_nil)) (pa_cons pe_str (pa_cons (pe_callTy call_str_int rfl T.z_str PyProof.Rows.boot_str (pa_cons (pe_fld (pv 0) rfl) pa_nil)) pa_nil))))) pa_nil))) p3, fun D H1 l1 hn sm hw k => ?_⟩
      try dsimp only [L2.cxOf]
      have hy1 := sm _ _ hy
      refine ⟨_, rfl, .inl ⟨rfl, _, SqL.of hw⟩, _, rfl, y, a.CP, dy, _, _, rfl, hy1, T.cCP, T.nCP_take, pf_take, _, rfl, log_ok (by omega), _, rfl, y, a.CP, dy, _, _, rfl, hy1, T.cCP, T.nCP_brk, pf_brk, _, rfl, log_ok (by omega), (by show 4 ≤ sizeLine; decide), fun l2 hl2 => ?_⟩
      have n12 : l1 ≠ l2 := ne_of_none hw hl2
      refine ⟨l1, l2, _, _, rfl, rfl, by rw [upd_ne n12]; exact hw, upd_same, (by rw [List.length_map, sizeLine_eq]; simp), k _ (fun b u e => ?_) ?_⟩
      · rw [upd_ne (ne_of_none e hn), upd_ne (ne_of_none (sm _ _ e) hl2)]
        exact sm _ _ e
      · rw [upd_same, List.map_append]
        rfl
    refine ⟨_, pss_cons (ps_set (i := 1) scPText.nd rfl (Or.inl rfl) (pe_lst (pa_cons (pe_ix ix_tup (pe_gr rfl T.g_KINDS) (pe_fld (pv 0) rfl) (fun _ _ => rfl)) (pa_cons (pe_callTy call_str_int rfl T.z_str PyProof.Rows.boot_str (pa_cons (pe_fld (pv 0) rfl) pa_nil)) (pa_cons pe_str (pa_cons (pe_callTy call_str_int rfl T.z_str PyProof.Rows.boot_str (pa_cons (pe_fld (pv 0) rfl) pa_nil)) pa_nil)))))) p2, ?_⟩
    try dsimp only [L2.cxOf]
    refine ⟨_, rfl, y, a.CP, dy, _, _, rfl, hy, T.cCP, T.nCP_kind, pf_kind, a.hKINDS, _, _, _, rfl, rfl, T.t_KINDS _, at_kinds o.kind, _, rfl, y, a.CP, dy, _, _, rfl, hy, T.cCP, T.nCP_k, pf_k, _, rfl, log_ok (by omega), _, rfl, y, a.CP, dy, _, _, rfl, hy, T.cCP, T.nCP_race, pf_race, _, rfl, log_ok (by omega), (by show 4 ≤ sizeLine; decide), fun l1 hl1 => ?_⟩
    refine q2 _ _ l1 hl1 (same_new hl1) upd_same fun H2 s2 w2 => q3 _ _ l1 hl1 s2 w2 fun H3 s3 w3 => q4 _ _ l1 hl1 s3 w3 fun H4 s4 w4 => q5 _ _ l1 s4 w4 q
end
section
variable {P : Program} {w : World} {K : PySem.W.Frag} {mg : Str → Option Value} {base : Heap} {a : Ad}
theorem flat_len {α : Type} (f : α → Tote.Bytes) (k : Nat) : ∀ {l : List α}, (∀ x ∈ l, (f x).length ≤ k) → (l.flatMap f).length ≤ k * l.length
  | [], _ => Nat.le_refl _
  | x :: l, h => by
    have h1 := h x List.mem_cons_self
    have h2 := flat_len f k fun z hz => h z (List.mem_cons_of_mem _ hz)
    rw [List.flatMap_cons, List.length_append, List.length_cons, Nat.mul_succ]
    omega
theorem scCText : FnScope ["card", "whole", "race", "pool"] ["card"] (defScope sCText) := FnScope.of (by decide +kernel)
theorem ok_ctext (T : Txt K mg a) {c9 P' : Addr} (hcd : a.dByB.code = .ref c9) (C : PySem.W.CodeHd base c9 P') (hB : base.BuiltinsAt mg P') : FnOk P w K mg base CX0 5 a.fCText a.dCText ["card"] (spCText a P') := by
  refine T.FCText.ok scCText (fun vs H Q E h => ?_) (fun cdv A outer s H vs Q E hr h => ?_)
  · obtain ⟨c, n, rs, ps, rfl, _⟩ := h
    rfl
  · obtain ⟨c, n, rs, ps, rfl, ⟨dn, lr, lp, qs, ys, hI⟩, tb, q⟩ := h
    obtain ⟨dc, hc⟩ := hI.ins
    obtain ⟨ps0, hps⟩ := tb.tbl
    have hf16 := hI.fewr
    have hf64 := hI.fewp
    have hdl := hI.dl
    have hday : H dn = some (.lst ((CM.I8 n).map V.int)) := hI.day
    have h4 : (Tote.ascii "day ").length = 4 := by decide +kernel
    have hrl : ∀ i, ((rs.take i).flatMap raceT).length ≤ 183 * 16 := fun i => by
      have g1 := flat_len raceT 183 (l := rs.take i) fun r hr => raceT_len (hI.good r (List.mem_of_mem_take hr))
      have g2 : (rs.take i).length ≤ rs.length := by rw [List.length_take]; omega
      omega
    have hpl : ∀ i, ((ps.take i).flatMap Tote.poolText).length ≤ 200 * 64 := fun i => by
      have g1 := flat_len Tote.poolText 200 (l := ps.take i) fun p hp => poolT_len (hI.goodp p (List.mem_of_mem_take hp))
      have g2 : (ps.take i).length ≤ ps.length := by rw [List.length_take]; omega
      omega
    have cP : ∀ {b : Addr} {o : HO}, H b = some o → NL o → b ≠ P' := fun e n z => by
      rw [z, hps] at e
      cases e
      exact n.2
    obtain ⟨t3, p3, q3⟩ : ∃ t, PSs (cxOf CX0 P w K mg base ["card", "whole", "race", "pool"] "card_text" (defScope sCText) a.fCText cdv A outer s H E).nox ((defBody sCText).drop 2) t ∧ ∀ (D : Ends) (H1 : Hp) (l1 : Addr) (v : Option V), H l1 = none → But P' H H1 → H1 l1 = some (.lst ((CM.I8 ((Tote.ascii "day " ++ n ++ [10]) ++ rs.flatMap raceT)).map V.int)) → (∀ (H2 : Hp) (l : Addr), H2 l = some (.lst ((CM.I8 (cardT n rs ps)).map V.int)) → But P' H H2 → D.rt (.ref l) H2) → t D [some (.ref c), some (.ref l1), v, none] H1 := by
      refine ⟨_, pss_cons (ps_for PassesOwn.never rfl (pi_list (pe_fld (pv 0) rfl)) (pg_name (i := 3) scCText.nd rfl (Or.inl rfl))
          (pss_one (ps_expr (pe_bm PySem.F.plainAttrs_list PySem.F.slot_list_extend PySem.F.type_list_extend mt_extend (pv 1) (pa_cons (pe_call (ok_ptext T) (hr.mono (by decide)) rfl T.gPText T.FPText.kp T.bPText .nil pass0 (pa_cons (pv 3) pa_nil)) pa_nil)))))
        (pss_one (ps_ret (pv 1))), fun D H1 l1 v hl1 bt hl k => ?_⟩
      try dsimp only [L2.cxOf]
      refine ⟨_, rfl, c, a.CC, dc, _, _, rfl, bt _ _ hc (cP hc (nl_ins (by decide +kernel))), T.cCC, T.nCC_pools, cf_pools, lp, rfl, ⟨_, SqL.of (bt _ _ hI.hlp (cP hI.hlp nl_lst))⟩, for_list (K := K) (a := lp) (xs := ys.map V.ref) (fun i σ H2 => ∃ w : Option V, σ = [some (.ref c), some (.ref l1), v, w] ∧ But P' H H2 ∧ H2 l1 = some (.lst ((CM.I8 (((Tote.ascii "day " ++ n ++ [10]) ++ rs.flatMap raceT) ++ (ps.take i).flatMap Tote.poolText)).map V.int)))
        ⟨none, rfl, bt, by rw [hl]; simp⟩ (fun i σ H2 _ ⟨_, _, bt, _⟩ => SqL.of (bt _ _ hI.hlp (cP hI.hlp nl_lst))) ?_ ?_⟩
      · rintro i v' σ H2 hi ⟨w', rfl, bt2, hl2⟩
        obtain ⟨y, hy, rfl⟩ : ∃ y, ys[i]? = some y ∧ V.ref y = v' := by
          rw [List.getElem?_map] at hi
          exact Option.map_eq_some_iff.mp hi
        obtain ⟨x, o, ho, hP, _⟩ := hI.pool i y hy
        have go := hI.goodp o (List.mem_of_getElem? ho)
        refine ⟨_, rfl, .inl ⟨rfl, _, SqL.of hl2⟩, _, rfl, y, x, o, rfl, hP.keep (bt2.keep hps), go, fun H3 b hb sm3 => ?_⟩
        refine ⟨l1, b, _, _, rfl, rfl, sm3 _ _ hl2, hb, ?_, _, rfl, fun b' o' e n' => ?_, ?_⟩
        · rw [List.length_map, List.length_map, CM.I8_len, CM.I8_len, List.length_append, List.length_append, List.length_append, List.length_append, h4, sizeLine_eq]
          have g1 := hrl rs.length
          rw [List.take_length] at g1
          have g2 := hpl i
          have g3 := poolT_len go
          show 4 + n.length + 1 + _ + _ + _ ≤ _
          omega
        · rw [upd_ne (ne_of_none e hl1)]
          exact sm3 _ _ (bt2 _ _ e n')
        · rw [upd_same, ← List.map_append, ← I8_app, List.take_add_one, ho]
          simp [List.flatMap_append]
      · rintro σ H2 ⟨w', rfl, bt2, hl2⟩
        rw [List.length_map, hI.lenp, List.take_length] at hl2
        refine ⟨_, rfl, k H2 l1 ?_ bt2⟩
        rw [hl2]
        unfold cardT
        rw [List.append_assoc (Tote.ascii "day " ++ n ++ [10])]
    obtain ⟨t2, p2, q2⟩ : ∃ t, PSs (cxOf CX0 P w K mg base ["card", "whole", "race", "pool"] "card_text" (defScope sCText) a.fCText cdv A outer s H E).nox ((defBody sCText).drop 1) t ∧ ∀ (D : Ends) (H1 : Hp) (l1 : Addr), H l1 = none → But P' H H1 → Tab P' H1 → H1 l1 = some (.lst ((CM.I8 (Tote.ascii "day " ++ n ++ [10])).map V.int)) → (∀ (H2 : Hp) (v : Option V), But P' H H2 → H2 l1 = some (.lst ((CM.I8 ((Tote.ascii "day " ++ n ++ [10]) ++ rs.flatMap raceT)).map V.int)) → t3 D [some (.ref c), some (.ref l1), v, none] H2) → t D [some (.ref c), some (.ref l1), none, none] H1 := by
      refine ⟨_, pss_cons (ps_for PassesOwn.never rfl (pi_list (pe_fld (pv 0) rfl)) (pg_name (i := 2) scCText.nd rfl (Or.inl rfl))
          (pss_one (ps_expr (pe_bm PySem.F.plainAttrs_list PySem.F.slot_list_extend PySem.F.type_list_extend mt_extend (pv 1) (pa_cons (pe_call (ok_rtext T hcd C hB) hr rfl T.gRText T.FRText.kp T.bRText .nil pass0 (pa_cons (pv 2) pa_nil)) pa_nil))))) p3, fun D H1 l1 hl1 bt tb1 hl k => ?_⟩
      try dsimp only [L2.cxOf]
      refine ⟨_, rfl, c, a.CC, dc, _, _, rfl, bt _ _ hc (cP hc (nl_ins (by decide +kernel))), T.cCC, T.nCC_races, cf_races, lr, rfl, ⟨_, SqL.of (bt _ _ hI.hlr (cP hI.hlr nl_lst))⟩, for_list (K := K) (a := lr) (xs := qs.map V.ref) (fun i σ H2 => ∃ v : Option V, σ = [some (.ref c), some (.ref l1), v, none] ∧ But P' H H2 ∧ Tab P' H2 ∧ H2 l1 = some (.lst ((CM.I8 ((Tote.ascii "day " ++ n ++ [10]) ++ (rs.take i).flatMap raceT)).map V.int)))
        ⟨none, rfl, bt, tb1, by rw [hl]; simp⟩ (fun i σ H2 _ ⟨_, _, bt, _⟩ => SqL.of (bt _ _ hI.hlr (cP hI.hlr nl_lst))) ?_ ?_⟩
      · rintro i v' σ H2 hi ⟨w', rfl, bt2, tb2, hl2⟩
        obtain ⟨u, hu, rfl⟩ : ∃ u, qs[i]? = some u ∧ V.ref u = v' := by
          rw [List.getElem?_map] at hi
          exact Option.map_eq_some_iff.mp hi
        obtain ⟨lc, r, hr', hR, _⟩ := hI.race i u hu
        have gr := hI.good r (List.mem_of_getElem? hr')
        obtain ⟨ps2, hps2⟩ := tb2.tbl
        refine ⟨_, rfl, .inl ⟨rfl, _, SqL.of hl2⟩, _, rfl, u, lc, r, rfl, hR.keep (bt2.keep hps), gr, tb2, fun H3 b hb tb3 bt3 => ?_⟩
        have hl3 := bt3 _ _ hl2 (fun z => by rw [z, hps2] at hl2; cases hl2)
        refine ⟨l1, b, _, _, rfl, rfl, hl3, hb, ?_, _, rfl, fun b' o' e n' => ?_, tb3.mono fun b' o' e n' => ?_, ?_⟩
        · rw [List.length_map, List.length_map, CM.I8_len, CM.I8_len, List.length_append, List.length_append, List.length_append, h4, sizeLine_eq]
          have g1 := hrl i
          have g3 := raceT_len gr
          show 4 + n.length + 1 + _ + _ ≤ _
          omega
        · rw [upd_ne (ne_of_none e hl1)]
          exact bt3 _ _ (bt2 _ _ e n') n'
        · rw [upd_ne (fun z => by rw [z, hl3] at e; cases e; exact n' _ rfl)]
          exact e
        · rw [upd_same, ← List.map_append, ← I8_app, List.take_add_one, hr']
          simp [List.flatMap_append]
      · rintro σ H2 ⟨w', rfl, bt2, tb2, hl2⟩
        rw [List.length_map, hI.lenr, List.take_length] at hl2
        exact k H2 w' bt2 hl2
    refine ⟨_, pss_cons (ps_set (i := 1) scCText.nd rfl (Or.inl rfl) (pe_op op_cat (pe_op op_cat (pe_call (ok_bytes T) (hr.mono (by decide)) rfl T.gBytes T.FBytes.kp T.bBytes .nil pass0 (pa_cons pe_str pa_nil)) (pe_fld (pv 0) rfl)) (pe_lst (pa_cons (pe_gi rfl T.v_NL) pa_nil)))) p2, ?_⟩
    try dsimp only [L2.cxOf]
    refine ⟨_, rfl, gs_day.1, fun H5 x5 hx5 sm5 hv5 => ?_⟩
    rw [gs_day.ints] at hv5
    refine ⟨_, rfl, c, a.CC, dc, _, _, rfl, sm5 _ _ hc, T.cCC, T.nCC_day_name, cf_day, x5, dn, _, _, rfl, rfl, hv5, sm5 _ _ hday, ?_, fun c1 hc1 => ⟨(by show 1 ≤ sizeLine; decide), fun l6 hl6 => ?_⟩⟩
    · rw [List.length_map, List.length_map, CM.I8_len, CM.I8_len, h4, sizeLine_eq]
      omega
    have u1 := upd_same (H := H5) (a := c1) (o := .lst ((CM.I8 (Tote.ascii "day ")).map V.int ++ (CM.I8 n).map V.int))
    have s6 := (same_new (o := .lst ((CM.I8 (Tote.ascii "day ")).map V.int ++ (CM.I8 n).map V.int)) hc1)
    have s7 := (same_new (o := .lst [.int 10]) hl6)
    refine ⟨c1, l6, _, _, rfl, rfl, s7 _ _ u1, upd_same, ?_, fun l1 hl1 => ?_⟩
    · rw [List.length_append, List.length_map, List.length_map, CM.I8_len, CM.I8_len, h4, sizeLine_eq]
      show _ + 1 ≤ _
      omega
    have s8 := sm5.trans (s6.trans (s7.trans (same_new (o := .lst (((CM.I8 (Tote.ascii "day ")).map V.int ++ (CM.I8 n).map V.int) ++ [.int 10])) hl1)))
    have hl1H : H l1 = none := by
      cases e : H l1 with
      | none => rfl
      | some u => exact nomatch ((s7 _ _ (s6 _ _ (sm5 _ _ e))).symm.trans hl1)
    refine q2 _ _ l1 hl1H (But.same s8) (tb.mono fun b o e _ => s8 _ _ e) ?_ fun H2 v b2 h2 => q3 _ _ l1 v hl1H b2 h2 q
    rw [upd_same]
    simp only [I8_app, List.map_append]
    rfl
theorem scCOne : FnScope ["text"] ["text"] (defScope sCOne) := FnScope.of (by decide +kernel)
theorem ok_main (T : Txt K mg a) {c P' c2 P2 : Addr} (hcd : a.dCOne.code = .ref c) (C : PySem.W.CodeHd base c P') (hB : base.BuiltinsAt mg P') (hcd2 : a.dByB.code = .ref c2) (C2 : PySem.W.CodeHd base c2 P2) (hB2 : base.BuiltinsAt mg P2) (hne : P2 ≠ P') : FnOk P w K mg base CX0 11 a.fCOne a.dCOne ["text"] (spCOne K P' P2) := by
  refine Fun.okC T.FCOne scCOne (fun vs H Q E h => ?_) (fun A outer s H vs Q E hr h => ?_)
  · obtain ⟨x, t, rfl, _⟩ := h
    rfl
  · obtain ⟨x, t, rfl, hx, hP, hP2, q⟩ := h
    refine ⟨_, pss_one (ps_ret (pe_call (ok_answer T) hr rfl T.gAnswer T.FAnswer.kp T.bAnswer .nil pass0 (pa_cons (pv 0) (pa_cons (pe_lam (clos := []) hcd C hB rfl rfl) pa_nil)))), ?_⟩
    try dsimp only [L2.cxOf]
    refine ⟨_, rfl, #[], hP, trivial, rfl, fun f c' ctv hf hc' nfc => ?_⟩
    have kp : ∀ (b : Addr) (u : HO) (o1 o2 o3 : HO), H b = some u → b ≠ P' → upd (upd (upd H P' o1) c' o2) f o3 b = some u := fun b u o1 o2 o3 e n => by
      rw [upd_ne (ne_of_none e hf), upd_ne (ne_of_none e hc'), upd_ne n]; exact e
    unfold ansO at q
    refine ⟨x, f, t, rfl, SqL.lam hP (fun b u e n => kp b u _ _ _ e n) hx, ⟨_, upd_same⟩, fun h H' l hl => q H' l (by rw [if_pos h]; exact hl), fun h => ?_⟩
    rw [if_neg h] at q
    refine ⟨fun e he H' l hl => q H' l (by rw [he]; exact hl), fun H' cd n rs ps hR hC sm A outer s us hr e0 r => ?_⟩
    rw [hR] at q
    have hP2' := sm _ _ (kp _ _ _ _ _ hP2 hne)
    refine lam_run (N := ["card"]) (ps := ["card"]) (k := 7) ?S (fun us hl => by obtain ⟨u, rfl⟩ := List.length_eq_one_iff.mp hl; rfl) (sm _ _ upd_same) (sm _ _ (by rw [upd_ne nfc.symm, upd_same])) hr e0 r rfl fun A outer s hr => ?_
    case S => exact FnScope.of (by decide +kernel)
    have hcl : (cardT n rs ps).length ≤ 20000 := by
      obtain ⟨dn, lr, lp, qs, ys, hI⟩ := hC
      have g1 := flat_len raceT 183 (l := rs) fun r hr => raceT_len (hI.good r hr)
      have g2 := flat_len Tote.poolText 200 (l := ps) fun p hp => poolT_len (hI.goodp p hp)
      have g3 := hI.fewr
      have g4 := hI.fewp
      have g5 := hI.dl
      have h4 : (Tote.ascii "day ").length = 4 := by decide +kernel
      unfold cardT
      rw [List.length_append, List.length_append, List.length_append, List.length_append, h4]
      show 4 + n.length + 1 + _ ≤ _
      omega
    refine ⟨_, pe_op op_cat (pe_lst (pa_cons (pe_gi rfl T.v_DONE) pa_nil)) (pe_call (ok_ctext T hcd2 C2 hB2) (hr.mono (by decide)) rfl T.gCText T.FCText.kp T.bCText .nil pass0 (pa_cons (pv 0) pa_nil)), ?_⟩
    refine ⟨(by show 1 ≤ sizeLine; decide), fun l1 hl1 => ?_⟩
    have s1 : Same H' (upd H' l1 (.lst [.int 0])) := same_new hl1
    obtain ⟨dn, lr, lp, qs, ys, hI⟩ := hC
    refine ⟨_, rfl, cd, n, rs, ps, rfl, ⟨dn, lr, lp, qs, ys, hI.keep (Keep.same s1)⟩, .inl (s1 _ _ hP2'), fun H2 l2 hl2 b2 => ?_⟩
    have q' : ∀ (H' : Hp) (l : Addr), H' l = some (.lst ((0 :: CM.I8 (Tote.Card.text ⟨n, rs.map CM.toRace, ps⟩)).map V.int)) → _ := q
    rw [cardT_is] at q'
    refine ⟨l1, l2, _, _, rfl, rfl, b2 _ _ upd_same (fun z => by rw [z] at hl1; rw [hP2'] at hl1; cases hl1), hl2, ?_, fun p hp => q' _ p upd_same⟩
    show 1 + ((CM.I8 (cardT n rs ps)).map V.int).length ≤ sizeLine
    rw [List.length_map, CM.I8_len, sizeLine_eq]
    omega
end
end RC
set_option maxRecDepth 100000
set_option maxHeartbeats 4000000
set_option linter.all false
set_option Elab.async false
namespace RC
open PySem L2 PySem.Spec PyProof.Rows
theorem lenS {us : List Value} {n : Nat} (h : us.length = n + 1) : ∃ a r, us = a :: r ∧ r.length = n := by
  cases us with
  | nil => cases h
  | cons a r => exact ⟨a, r, rfl, Nat.succ.inj h⟩
theorem len1 {us : List Value} (h : us.length = 1) : ∃ a0, us = [a0] := by
  obtain ⟨a0, r0, e0, h⟩ := lenS h
  rw [e0, List.length_eq_zero_iff.mp h]
  exact ⟨a0, rfl⟩
theorem len2 {us : List Value} (h : us.length = 2) : ∃ a0 a1, us = [a0, a1] := by
  obtain ⟨a0, r0, e0, h⟩ := lenS h
  obtain ⟨a1, r1, e1, h⟩ := lenS h
  rw [e0, e1, List.length_eq_zero_iff.mp h]
  exact ⟨a0, a1, rfl⟩
theorem len3 {us : List Value} (h : us.length = 3) : ∃ a0 a1 a2, us = [a0, a1, a2] := by
  obtain ⟨a0, r0, e0, h⟩ := lenS h
  obtain ⟨a1, r1, e1, h⟩ := lenS h
  obtain ⟨a2, r2, e2, h⟩ := lenS h
  rw [e0, e1, e2, List.length_eq_zero_iff.mp h]
  exact ⟨a0, a1, a2, rfl⟩
theorem len4 {us : List Value} (h : us.length = 4) : ∃ a0 a1 a2 a3, us = [a0, a1, a2, a3] := by
  obtain ⟨a0, r0, e0, h⟩ := lenS h
  obtain ⟨a1, r1, e1, h⟩ := lenS h
  obtain ⟨a2, r2, e2, h⟩ := lenS h
  obtain ⟨a3, r3, e3, h⟩ := lenS h
  rw [e0, e1, e2, e3, List.length_eq_zero_iff.mp h]
  exact ⟨a0, a1, a2, a3, rfl⟩
theorem len10 {us : List Value} (h : us.length = 10) : ∃ a0 a1 a2 a3 a4 a5 a6 a7 a8 a9, us = [a0, a1, a2, a3, a4, a5, a6, a7, a8, a9] := by
  obtain ⟨a0, r0, e0, h⟩ := lenS h
  obtain ⟨a1, r1, e1, h⟩ := lenS h
  obtain ⟨a2, r2, e2, h⟩ := lenS h
  obtain ⟨a3, r3, e3, h⟩ := lenS h
  obtain ⟨a4, r4, e4, h⟩ := lenS h
  obtain ⟨a5, r5, e5, h⟩ := lenS h
  obtain ⟨a6, r6, e6, h⟩ := lenS h
  obtain ⟨a7, r7, e7, h⟩ := lenS h
  obtain ⟨a8, r8, e8, h⟩ := lenS h
  obtain ⟨a9, r9, e9, h⟩ := lenS h
  rw [e0, e1, e2, e3, e4, e5, e6, e7, e8, e9, List.length_eq_zero_iff.mp h]
  exact ⟨a0, a1, a2, a3, a4, a5, a6, a7, a8, a9, rfl⟩
theorem all_mk {K : PySem.W.Frag} {h : Heap} {mg : Str → Option Value} {fa CF CL CR CP CC fFI fLI fAny fNext fChoice fFixed fTName fNum fRule fFin fBytes fLetter fDigit fIsName fNumOf fLEnd fBad fCheck fSplit fLFrom fRI fInt fByB fPI fCI fDay fCouple fRace fPName fPool fAddR fAddP fCard fRText fPText fCText fAnswer fCOne hHEADINGS hKINDS hLEASTK hMOSTK hNONES hNONESOFPLACE NF : Addr} (X : K.In h) (G : h.Ns mainGlobals mg) (hfa : mg "one_text" = some (.ref fa))
    {odFI anFI : Option Addr} {slFI : Array (Option Value)} {ocFI kVFI dcFI pmFI cdFI ctFI : Value}
    {odLI anLI : Option Addr} {slLI : Array (Option Value)} {ocLI kVLI dcLI pmLI cdLI ctLI : Value}
    {odAny anAny : Option Addr} {slAny : Array (Option Value)} {ocAny kVAny dcAny pmAny cdAny ctAny : Value}
    {odNext anNext : Option Addr} {slNext : Array (Option Value)} {ocNext kVNext dcNext pmNext cdNext ctNext : Value}
    {odChoice anChoice : Option Addr} {slChoice : Array (Option Value)} {ocChoice kVChoice dcChoice pmChoice cdChoice ctChoice : Value}
    {odFixed anFixed : Option Addr} {slFixed : Array (Option Value)} {ocFixed kVFixed dcFixed pmFixed cdFixed ctFixed : Value}
    {odTName anTName : Option Addr} {slTName : Array (Option Value)} {ocTName kVTName dcTName pmTName cdTName ctTName : Value}
    {odNum anNum : Option Addr} {slNum : Array (Option Value)} {ocNum kVNum dcNum pmNum cdNum ctNum : Value}
    {odRule anRule : Option Addr} {slRule : Array (Option Value)} {ocRule kVRule dcRule pmRule cdRule ctRule : Value}
    {odFin anFin : Option Addr} {slFin : Array (Option Value)} {ocFin kVFin dcFin pmFin cdFin ctFin : Value}
    {odBytes anBytes : Option Addr} {slBytes : Array (Option Value)} {ocBytes kVBytes dcBytes pmBytes cdBytes ctBytes : Value}
    {odLetter anLetter : Option Addr} {slLetter : Array (Option Value)} {ocLetter kVLetter dcLetter pmLetter cdLetter ctLetter : Value}
    {odDigit anDigit : Option Addr} {slDigit : Array (Option Value)} {ocDigit kVDigit dcDigit pmDigit cdDigit ctDigit : Value}
    {odIsName anIsName : Option Addr} {slIsName : Array (Option Value)} {ocIsName kVIsName dcIsName pmIsName cdIsName ctIsName : Value}
    {odNumOf anNumOf : Option Addr} {slNumOf : Array (Option Value)} {ocNumOf kVNumOf dcNumOf pmNumOf cdNumOf ctNumOf : Value}
    {odLEnd anLEnd : Option Addr} {slLEnd : Array (Option Value)} {ocLEnd kVLEnd dcLEnd pmLEnd cdLEnd ctLEnd : Value}
    {odBad anBad : Option Addr} {slBad : Array (Option Value)} {ocBad kVBad dcBad pmBad cdBad ctBad : Value}
    {odCheck anCheck : Option Addr} {slCheck : Array (Option Value)} {ocCheck kVCheck dcCheck pmCheck cdCheck ctCheck : Value}
    {odSplit anSplit : Option Addr} {slSplit : Array (Option Value)} {ocSplit kVSplit dcSplit pmSplit cdSplit ctSplit : Value}
    {odLFrom anLFrom : Option Addr} {slLFrom : Array (Option Value)} {ocLFrom kVLFrom dcLFrom pmLFrom cdLFrom ctLFrom : Value}
    {odRI anRI : Option Addr} {slRI : Array (Option Value)} {ocRI kVRI dcRI pmRI cdRI ctRI : Value}
    {odInt anInt : Option Addr} {slInt : Array (Option Value)} {ocInt kVInt dcInt pmInt cdInt ctInt : Value}
    {odByB anByB : Option Addr} {slByB : Array (Option Value)} {ocByB kVByB dcByB pmByB cdByB ctByB : Value}
    {odPI anPI : Option Addr} {slPI : Array (Option Value)} {ocPI kVPI dcPI pmPI cdPI ctPI : Value}
    {odCI anCI : Option Addr} {slCI : Array (Option Value)} {ocCI kVCI dcCI pmCI cdCI ctCI : Value}
    {odDay anDay : Option Addr} {slDay : Array (Option Value)} {ocDay kVDay dcDay pmDay cdDay ctDay : Value}
    {odCouple anCouple : Option Addr} {slCouple : Array (Option Value)} {ocCouple kVCouple dcCouple pmCouple cdCouple ctCouple : Value}
    {odRace anRace : Option Addr} {slRace : Array (Option Value)} {ocRace kVRace dcRace pmRace cdRace ctRace : Value}
    {odPName anPName : Option Addr} {slPName : Array (Option Value)} {ocPName kVPName dcPName pmPName cdPName ctPName : Value}
    {odPool anPool : Option Addr} {slPool : Array (Option Value)} {ocPool kVPool dcPool pmPool cdPool ctPool : Value}
    {odAddR anAddR : Option Addr} {slAddR : Array (Option Value)} {ocAddR kVAddR dcAddR pmAddR cdAddR ctAddR : Value}
    {odAddP anAddP : Option Addr} {slAddP : Array (Option Value)} {ocAddP kVAddP dcAddP pmAddP cdAddP ctAddP : Value}
    {odCard anCard : Option Addr} {slCard : Array (Option Value)} {ocCard kVCard dcCard pmCard cdCard ctCard : Value}
    {odRText anRText : Option Addr} {slRText : Array (Option Value)} {ocRText kVRText dcRText pmRText cdRText ctRText : Value}
    {odPText anPText : Option Addr} {slPText : Array (Option Value)} {ocPText kVPText dcPText pmPText cdPText ctPText : Value}
    {odCText anCText : Option Addr} {slCText : Array (Option Value)} {ocCText kVCText dcCText pmCText cdCText ctCText : Value}
    {odAnswer anAnswer : Option Addr} {slAnswer : Array (Option Value)} {ocAnswer kVAnswer dcAnswer pmAnswer cdAnswer ctAnswer : Value}
    {odCOne anCOne : Option Addr} {slCOne : Array (Option Value)} {ocCOne kVCOne dcCOne pmCOne cdCOne ctCOne : Value}
    {nmF qF : Str} {bsF : List Value} {snF : List Str} {subF : List Value} {abF : Bool} {colF : Option Bool} {ddF : Option Addr} {k0F k1F k2F k3F k5F : Option Value} {c0F : Value} {d0F : Option Addr} {esF : Array DictEntry} {epF : Nat} {slF : Array (Option Value)}
    {tkNOTENDED : Tok}
    {tkBADBYTE : Tok}
    {tkBADWORD : Tok}
    {tkBADVALUE : Tok}
    {tkNAMEISTHERE : Tok}
    {tkTOOMANY : Tok}
    {tkFEWINTERESTS : Tok}
    {tkNORACE : Tok}
    {tkNL : Tok}
    {tkBLANK : Tok}
    {tkLASTSIGN : Tok}
    {tkDIGIT0 : Tok}
    {tkDIGIT9 : Tok}
    {tkLETTERA : Tok}
    {tkLETTERZ : Tok}
    {tkMOSTNAME : Tok}
    {tkMOSTDIGITS : Tok}
    {tkMOSTRACES : Tok}
    {tkMOSTPOOLS : Tok}
    {tkMOSTCOUPLES : Tok}
    {tkRACELINE : Tok}
    {tkPLACE : Tok}
    {tkLEGS : Tok}
    {tkMOSTBYTES : Tok}
    {tkDONE : Tok}
    {tkTOOLONG : Tok}
    {tkFAULTY : Tok}
    {tcHEADINGS : Option Addr} {tsHEADINGS : Array (Option Value)} {tnHEADINGS : Nat} {uHEADINGS0 uHEADINGS1 : Tok}
    {tcKINDS : Option Addr} {tsKINDS : Array (Option Value)} {tnKINDS : Nat} {uKINDS0 uKINDS1 uKINDS2 uKINDS3 : Tok}
    {tcLEASTK : Option Addr} {tsLEASTK : Array (Option Value)} {tnLEASTK : Nat} {uLEASTK0 uLEASTK1 uLEASTK2 uLEASTK3 : Tok}
    {tcMOSTK : Option Addr} {tsMOSTK : Array (Option Value)} {tnMOSTK : Nat} {uMOSTK0 uMOSTK1 uMOSTK2 uMOSTK3 : Tok}
    {tcNONES : Option Addr} {tsNONES : Array (Option Value)} {tnNONES : Nat} {uNONES0 uNONES1 uNONES2 : Tok}
    {tcNONESOFPLACE : Option Addr} {tsNONESOFPLACE : Array (Option Value)} {tnNONESOFPLACE : Nat} {uNONESOFPLACE0 uNONESOFPLACE1 : Tok}
    (p_aCF : PySem.W.nsIn K mainGlobals "Fault" = some (some (.ref CF)))
    (p_aCL : PySem.W.nsIn K mainGlobals "Line" = some (some (.ref CL)))
    (p_aCR : PySem.W.nsIn K mainGlobals "Race" = some (some (.ref CR)))
    (p_aCP : PySem.W.nsIn K mainGlobals "Pool" = some (some (.ref CP)))
    (p_aCC : PySem.W.nsIn K mainGlobals "Card" = some (some (.ref CC)))
    (p_lCF : K.lookup CF = some (excClassObj nmF qF CF NF bsF bmE true snF subF abF colF ddF k0F k1F k2F k3F k5F "Exception.__new__"))
    (p_lNF : K.lookup NF = some ⟨c0F, d0F, .dict esF epF, slF⟩)
    (p_skF : strKeysB esF = true)
    (p_i1F : PySem.W.nsIn K NF "__init__" = some (some (.ref fFI)))
    (p_lFI : K.lookup fFI = some ⟨ocFI, odFI, .func (PySem.W.fnOf "__init__" "Fault.__init__" (defArgs sFI) (defBody sFI) (defScope sFI) .none kVFI dcFI pmFI anFI cdFI ctFI), slFI⟩)
    (p_cFI : PySem.W.codeIn K cdFI "Fault.__init__" = true)
    (p_kFI : PySem.W.keepIn K (.ref fFI) = true)
    (p_aLI : PySem.W.findIn K (.ref CL) "__init__" = some (some (.ref fLI)))
    (p_iLI : PySem.W.isFn K (.ref fLI) = true)
    (p_lLI : K.lookup fLI = some ⟨ocLI, odLI, .func (PySem.W.fnOf "__init__" "Line.__init__" (defArgs sLI) (defBody sLI) (defScope sLI) .none kVLI dcLI pmLI anLI cdLI ctLI), slLI⟩)
    (p_cLI : PySem.W.codeIn K cdLI "Line.__init__" = true)
    (p_kLI : PySem.W.keepIn K (.ref fLI) = true)
    (p_aAny : PySem.W.findIn K (.ref CL) "any_left" = some (some (.ref fAny)))
    (p_iAny : PySem.W.isFn K (.ref fAny) = true)
    (p_lAny : K.lookup fAny = some ⟨ocAny, odAny, .func (PySem.W.fnOf "any_left" "Line.any_left" (defArgs sAny) (defBody sAny) (defScope sAny) .none kVAny dcAny pmAny anAny cdAny ctAny), slAny⟩)
    (p_cAny : PySem.W.codeIn K cdAny "Line.any_left" = true)
    (p_kAny : PySem.W.keepIn K (.ref fAny) = true)
    (p_aNext : PySem.W.findIn K (.ref CL) "next_word" = some (some (.ref fNext)))
    (p_iNext : PySem.W.isFn K (.ref fNext) = true)
    (p_lNext : K.lookup fNext = some ⟨ocNext, odNext, .func (PySem.W.fnOf "next_word" "Line.next_word" (defArgs sNext) (defBody sNext) (defScope sNext) .none kVNext dcNext pmNext anNext cdNext ctNext), slNext⟩)
    (p_cNext : PySem.W.codeIn K cdNext "Line.next_word" = true)
    (p_kNext : PySem.W.keepIn K (.ref fNext) = true)
    (p_aChoice : PySem.W.findIn K (.ref CL) "take_choice" = some (some (.ref fChoice)))
    (p_iChoice : PySem.W.isFn K (.ref fChoice) = true)
    (p_lChoice : K.lookup fChoice = some ⟨ocChoice, odChoice, .func (PySem.W.fnOf "take_choice" "Line.take_choice" (defArgs sChoice) (defBody sChoice) (defScope sChoice) .none kVChoice dcChoice pmChoice anChoice cdChoice ctChoice), slChoice⟩)
    (p_cChoice : PySem.W.codeIn K cdChoice "Line.take_choice" = true)
    (p_kChoice : PySem.W.keepIn K (.ref fChoice) = true)
    (p_aFixed : PySem.W.findIn K (.ref CL) "take_fixed" = some (some (.ref fFixed)))
    (p_iFixed : PySem.W.isFn K (.ref fFixed) = true)
    (p_lFixed : K.lookup fFixed = some ⟨ocFixed, odFixed, .func (PySem.W.fnOf "take_fixed" "Line.take_fixed" (defArgs sFixed) (defBody sFixed) (defScope sFixed) .none kVFixed dcFixed pmFixed anFixed cdFixed ctFixed), slFixed⟩)
    (p_cFixed : PySem.W.codeIn K cdFixed "Line.take_fixed" = true)
    (p_kFixed : PySem.W.keepIn K (.ref fFixed) = true)
    (p_aTName : PySem.W.findIn K (.ref CL) "take_name" = some (some (.ref fTName)))
    (p_iTName : PySem.W.isFn K (.ref fTName) = true)
    (p_lTName : K.lookup fTName = some ⟨ocTName, odTName, .func (PySem.W.fnOf "take_name" "Line.take_name" (defArgs sTName) (defBody sTName) (defScope sTName) .none kVTName dcTName pmTName anTName cdTName ctTName), slTName⟩)
    (p_cTName : PySem.W.codeIn K cdTName "Line.take_name" = true)
    (p_kTName : PySem.W.keepIn K (.ref fTName) = true)
    (p_aNum : PySem.W.findIn K (.ref CL) "take_number" = some (some (.ref fNum)))
    (p_iNum : PySem.W.isFn K (.ref fNum) = true)
    (p_lNum : K.lookup fNum = some ⟨ocNum, odNum, .func (PySem.W.fnOf "take_number" "Line.take_number" (defArgs sNum) (defBody sNum) (defScope sNum) .none kVNum dcNum pmNum anNum cdNum ctNum), slNum⟩)
    (p_cNum : PySem.W.codeIn K cdNum "Line.take_number" = true)
    (p_kNum : PySem.W.keepIn K (.ref fNum) = true)
    (p_aRule : PySem.W.findIn K (.ref CL) "take_rule" = some (some (.ref fRule)))
    (p_iRule : PySem.W.isFn K (.ref fRule) = true)
    (p_lRule : K.lookup fRule = some ⟨ocRule, odRule, .func (PySem.W.fnOf "take_rule" "Line.take_rule" (defArgs sRule) (defBody sRule) (defScope sRule) .none kVRule dcRule pmRule anRule cdRule ctRule), slRule⟩)
    (p_cRule : PySem.W.codeIn K cdRule "Line.take_rule" = true)
    (p_kRule : PySem.W.keepIn K (.ref fRule) = true)
    (p_aFin : PySem.W.findIn K (.ref CL) "finish" = some (some (.ref fFin)))
    (p_iFin : PySem.W.isFn K (.ref fFin) = true)
    (p_lFin : K.lookup fFin = some ⟨ocFin, odFin, .func (PySem.W.fnOf "finish" "Line.finish" (defArgs sFin) (defBody sFin) (defScope sFin) .none kVFin dcFin pmFin anFin cdFin ctFin), slFin⟩)
    (p_cFin : PySem.W.codeIn K cdFin "Line.finish" = true)
    (p_kFin : PySem.W.keepIn K (.ref fFin) = true)
    (p_aBytes : PySem.W.nsIn K mainGlobals "bytes_of" = some (some (.ref fBytes)))
    (p_lBytes : K.lookup fBytes = some ⟨ocBytes, odBytes, .func (PySem.W.fnOf "bytes_of" "bytes_of" (defArgs sBytes) (defBody sBytes) (defScope sBytes) .none kVBytes dcBytes pmBytes anBytes cdBytes ctBytes), slBytes⟩)
    (p_cBytes : PySem.W.codeIn K cdBytes "bytes_of" = true)
    (p_kBytes : PySem.W.keepIn K (.ref fBytes) = true)
    (p_aLetter : PySem.W.nsIn K mainGlobals "is_letter" = some (some (.ref fLetter)))
    (p_lLetter : K.lookup fLetter = some ⟨ocLetter, odLetter, .func (PySem.W.fnOf "is_letter" "is_letter" (defArgs sLetter) (defBody sLetter) (defScope sLetter) .none kVLetter dcLetter pmLetter anLetter cdLetter ctLetter), slLetter⟩)
    (p_cLetter : PySem.W.codeIn K cdLetter "is_letter" = true)
    (p_kLetter : PySem.W.keepIn K (.ref fLetter) = true)
    (p_aDigit : PySem.W.nsIn K mainGlobals "is_digit" = some (some (.ref fDigit)))
    (p_lDigit : K.lookup fDigit = some ⟨ocDigit, odDigit, .func (PySem.W.fnOf "is_digit" "is_digit" (defArgs sDigit) (defBody sDigit) (defScope sDigit) .none kVDigit dcDigit pmDigit anDigit cdDigit ctDigit), slDigit⟩)
    (p_cDigit : PySem.W.codeIn K cdDigit "is_digit" = true)
    (p_kDigit : PySem.W.keepIn K (.ref fDigit) = true)
    (p_aIsName : PySem.W.nsIn K mainGlobals "is_name" = some (some (.ref fIsName)))
    (p_lIsName : K.lookup fIsName = some ⟨ocIsName, odIsName, .func (PySem.W.fnOf "is_name" "is_name" (defArgs sIsName) (defBody sIsName) (defScope sIsName) .none kVIsName dcIsName pmIsName anIsName cdIsName ctIsName), slIsName⟩)
    (p_cIsName : PySem.W.codeIn K cdIsName "is_name" = true)
    (p_kIsName : PySem.W.keepIn K (.ref fIsName) = true)
    (p_aNumOf : PySem.W.nsIn K mainGlobals "number_of" = some (some (.ref fNumOf)))
    (p_lNumOf : K.lookup fNumOf = some ⟨ocNumOf, odNumOf, .func (PySem.W.fnOf "number_of" "number_of" (defArgs sNumOf) (defBody sNumOf) (defScope sNumOf) .none kVNumOf dcNumOf pmNumOf anNumOf cdNumOf ctNumOf), slNumOf⟩)
    (p_cNumOf : PySem.W.codeIn K cdNumOf "number_of" = true)
    (p_kNumOf : PySem.W.keepIn K (.ref fNumOf) = true)
    (p_aLEnd : PySem.W.nsIn K mainGlobals "line_end" = some (some (.ref fLEnd)))
    (p_lLEnd : K.lookup fLEnd = some ⟨ocLEnd, odLEnd, .func (PySem.W.fnOf "line_end" "line_end" (defArgs sLEnd) (defBody sLEnd) (defScope sLEnd) .none kVLEnd dcLEnd pmLEnd anLEnd cdLEnd ctLEnd), slLEnd⟩)
    (p_cLEnd : PySem.W.codeIn K cdLEnd "line_end" = true)
    (p_kLEnd : PySem.W.keepIn K (.ref fLEnd) = true)
    (p_aBad : PySem.W.nsIn K mainGlobals "is_bad_byte" = some (some (.ref fBad)))
    (p_lBad : K.lookup fBad = some ⟨ocBad, odBad, .func (PySem.W.fnOf "is_bad_byte" "is_bad_byte" (defArgs sBad) (defBody sBad) (defScope sBad) .none kVBad dcBad pmBad anBad cdBad ctBad), slBad⟩)
    (p_cBad : PySem.W.codeIn K cdBad "is_bad_byte" = true)
    (p_kBad : PySem.W.keepIn K (.ref fBad) = true)
    (p_aCheck : PySem.W.nsIn K mainGlobals "check_bytes" = some (some (.ref fCheck)))
    (p_lCheck : K.lookup fCheck = some ⟨ocCheck, odCheck, .func (PySem.W.fnOf "check_bytes" "check_bytes" (defArgs sCheck) (defBody sCheck) (defScope sCheck) .none kVCheck dcCheck pmCheck anCheck cdCheck ctCheck), slCheck⟩)
    (p_cCheck : PySem.W.codeIn K cdCheck "check_bytes" = true)
    (p_kCheck : PySem.W.keepIn K (.ref fCheck) = true)
    (p_aSplit : PySem.W.nsIn K mainGlobals "split_words" = some (some (.ref fSplit)))
    (p_lSplit : K.lookup fSplit = some ⟨ocSplit, odSplit, .func (PySem.W.fnOf "split_words" "split_words" (defArgs sSplit) (defBody sSplit) (defScope sSplit) .none kVSplit dcSplit pmSplit anSplit cdSplit ctSplit), slSplit⟩)
    (p_cSplit : PySem.W.codeIn K cdSplit "split_words" = true)
    (p_kSplit : PySem.W.keepIn K (.ref fSplit) = true)
    (p_aLFrom : PySem.W.nsIn K mainGlobals "line_from" = some (some (.ref fLFrom)))
    (p_lLFrom : K.lookup fLFrom = some ⟨ocLFrom, odLFrom, .func (PySem.W.fnOf "line_from" "line_from" (defArgs sLFrom) (defBody sLFrom) (defScope sLFrom) .none kVLFrom dcLFrom pmLFrom anLFrom cdLFrom ctLFrom), slLFrom⟩)
    (p_cLFrom : PySem.W.codeIn K cdLFrom "line_from" = true)
    (p_kLFrom : PySem.W.keepIn K (.ref fLFrom) = true)
    (p_aRI : PySem.W.findIn K (.ref CR) "__init__" = some (some (.ref fRI)))
    (p_iRI : PySem.W.isFn K (.ref fRI) = true)
    (p_lRI : K.lookup fRI = some ⟨ocRI, odRI, .func (PySem.W.fnOf "__init__" "Race.__init__" (defArgs sRI) (defBody sRI) (defScope sRI) .none kVRI dcRI pmRI anRI cdRI ctRI), slRI⟩)
    (p_cRI : PySem.W.codeIn K cdRI "Race.__init__" = true)
    (p_kRI : PySem.W.keepIn K (.ref fRI) = true)
    (p_aInt : PySem.W.findIn K (.ref CR) "interests" = some (some (.ref fInt)))
    (p_iInt : PySem.W.isFn K (.ref fInt) = true)
    (p_lInt : K.lookup fInt = some ⟨ocInt, odInt, .func (PySem.W.fnOf "interests" "Race.interests" (defArgs sInt) (defBody sInt) (defScope sInt) .none kVInt dcInt pmInt anInt cdInt ctInt), slInt⟩)
    (p_cInt : PySem.W.codeIn K cdInt "Race.interests" = true)
    (p_kInt : PySem.W.keepIn K (.ref fInt) = true)
    (p_aByB : PySem.W.findIn K (.ref CR) "couples_by_b" = some (some (.ref fByB)))
    (p_iByB : PySem.W.isFn K (.ref fByB) = true)
    (p_lByB : K.lookup fByB = some ⟨ocByB, odByB, .func (PySem.W.fnOf "couples_by_b" "Race.couples_by_b" (defArgs sByB) (defBody sByB) (defScope sByB) .none kVByB dcByB pmByB anByB cdByB ctByB), slByB⟩)
    (p_cByB : PySem.W.codeIn K cdByB "Race.couples_by_b" = true)
    (p_kByB : PySem.W.keepIn K (.ref fByB) = true)
    (p_aPI : PySem.W.findIn K (.ref CP) "__init__" = some (some (.ref fPI)))
    (p_iPI : PySem.W.isFn K (.ref fPI) = true)
    (p_lPI : K.lookup fPI = some ⟨ocPI, odPI, .func (PySem.W.fnOf "__init__" "Pool.__init__" (defArgs sPI) (defBody sPI) (defScope sPI) .none kVPI dcPI pmPI anPI cdPI ctPI), slPI⟩)
    (p_cPI : PySem.W.codeIn K cdPI "Pool.__init__" = true)
    (p_kPI : PySem.W.keepIn K (.ref fPI) = true)
    (p_aCI : PySem.W.findIn K (.ref CC) "__init__" = some (some (.ref fCI)))
    (p_iCI : PySem.W.isFn K (.ref fCI) = true)
    (p_lCI : K.lookup fCI = some ⟨ocCI, odCI, .func (PySem.W.fnOf "__init__" "Card.__init__" (defArgs sCI) (defBody sCI) (defScope sCI) .none kVCI dcCI pmCI anCI cdCI ctCI), slCI⟩)
    (p_cCI : PySem.W.codeIn K cdCI "Card.__init__" = true)
    (p_kCI : PySem.W.keepIn K (.ref fCI) = true)
    (p_aDay : PySem.W.nsIn K mainGlobals "read_day" = some (some (.ref fDay)))
    (p_lDay : K.lookup fDay = some ⟨ocDay, odDay, .func (PySem.W.fnOf "read_day" "read_day" (defArgs sDay) (defBody sDay) (defScope sDay) .none kVDay dcDay pmDay anDay cdDay ctDay), slDay⟩)
    (p_cDay : PySem.W.codeIn K cdDay "read_day" = true)
    (p_kDay : PySem.W.keepIn K (.ref fDay) = true)
    (p_aCouple : PySem.W.nsIn K mainGlobals "read_couple" = some (some (.ref fCouple)))
    (p_lCouple : K.lookup fCouple = some ⟨ocCouple, odCouple, .func (PySem.W.fnOf "read_couple" "read_couple" (defArgs sCouple) (defBody sCouple) (defScope sCouple) .none kVCouple dcCouple pmCouple anCouple cdCouple ctCouple), slCouple⟩)
    (p_cCouple : PySem.W.codeIn K cdCouple "read_couple" = true)
    (p_kCouple : PySem.W.keepIn K (.ref fCouple) = true)
    (p_aRace : PySem.W.nsIn K mainGlobals "read_race" = some (some (.ref fRace)))
    (p_lRace : K.lookup fRace = some ⟨ocRace, odRace, .func (PySem.W.fnOf "read_race" "read_race" (defArgs sRace) (defBody sRace) (defScope sRace) .none kVRace dcRace pmRace anRace cdRace ctRace), slRace⟩)
    (p_cRace : PySem.W.codeIn K cdRace "read_race" = true)
    (p_kRace : PySem.W.keepIn K (.ref fRace) = true)
    (p_aPName : PySem.W.nsIn K mainGlobals "read_pool_name" = some (some (.ref fPName)))
    (p_lPName : K.lookup fPName = some ⟨ocPName, odPName, .func (PySem.W.fnOf "read_pool_name" "read_pool_name" (defArgs sPName) (defBody sPName) (defScope sPName) .none kVPName dcPName pmPName anPName cdPName ctPName), slPName⟩)
    (p_cPName : PySem.W.codeIn K cdPName "read_pool_name" = true)
    (p_kPName : PySem.W.keepIn K (.ref fPName) = true)
    (p_aPool : PySem.W.nsIn K mainGlobals "read_pool" = some (some (.ref fPool)))
    (p_lPool : K.lookup fPool = some ⟨ocPool, odPool, .func (PySem.W.fnOf "read_pool" "read_pool" (defArgs sPool) (defBody sPool) (defScope sPool) .none kVPool dcPool pmPool anPool cdPool ctPool), slPool⟩)
    (p_cPool : PySem.W.codeIn K cdPool "read_pool" = true)
    (p_kPool : PySem.W.keepIn K (.ref fPool) = true)
    (p_aAddR : PySem.W.nsIn K mainGlobals "add_race" = some (some (.ref fAddR)))
    (p_lAddR : K.lookup fAddR = some ⟨ocAddR, odAddR, .func (PySem.W.fnOf "add_race" "add_race" (defArgs sAddR) (defBody sAddR) (defScope sAddR) .none kVAddR dcAddR pmAddR anAddR cdAddR ctAddR), slAddR⟩)
    (p_cAddR : PySem.W.codeIn K cdAddR "add_race" = true)
    (p_kAddR : PySem.W.keepIn K (.ref fAddR) = true)
    (p_aAddP : PySem.W.nsIn K mainGlobals "add_pool" = some (some (.ref fAddP)))
    (p_lAddP : K.lookup fAddP = some ⟨ocAddP, odAddP, .func (PySem.W.fnOf "add_pool" "add_pool" (defArgs sAddP) (defBody sAddP) (defScope sAddP) .none kVAddP dcAddP pmAddP anAddP cdAddP ctAddP), slAddP⟩)
    (p_cAddP : PySem.W.codeIn K cdAddP "add_pool" = true)
    (p_kAddP : PySem.W.keepIn K (.ref fAddP) = true)
    (p_aCard : PySem.W.nsIn K mainGlobals "read_card" = some (some (.ref fCard)))
    (p_lCard : K.lookup fCard = some ⟨ocCard, odCard, .func (PySem.W.fnOf "read_card" "read_card" (defArgs sCard) (defBody sCard) (defScope sCard) .none kVCard dcCard pmCard anCard cdCard ctCard), slCard⟩)
    (p_cCard : PySem.W.codeIn K cdCard "read_card" = true)
    (p_kCard : PySem.W.keepIn K (.ref fCard) = true)
    (p_aRText : PySem.W.nsIn K mainGlobals "race_text" = some (some (.ref fRText)))
    (p_lRText : K.lookup fRText = some ⟨ocRText, odRText, .func (PySem.W.fnOf "race_text" "race_text" (defArgs sRText) (defBody sRText) (defScope sRText) .none kVRText dcRText pmRText anRText cdRText ctRText), slRText⟩)
    (p_cRText : PySem.W.codeIn K cdRText "race_text" = true)
    (p_kRText : PySem.W.keepIn K (.ref fRText) = true)
    (p_aPText : PySem.W.nsIn K mainGlobals "pool_text" = some (some (.ref fPText)))
    (p_lPText : K.lookup fPText = some ⟨ocPText, odPText, .func (PySem.W.fnOf "pool_text" "pool_text" (defArgs sPText) (defBody sPText) (defScope sPText) .none kVPText dcPText pmPText anPText cdPText ctPText), slPText⟩)
    (p_cPText : PySem.W.codeIn K cdPText "pool_text" = true)
    (p_kPText : PySem.W.keepIn K (.ref fPText) = true)
    (p_aCText : PySem.W.nsIn K mainGlobals "card_text" = some (some (.ref fCText)))
    (p_lCText : K.lookup fCText = some ⟨ocCText, odCText, .func (PySem.W.fnOf "card_text" "card_text" (defArgs sCText) (defBody sCText) (defScope sCText) .none kVCText dcCText pmCText anCText cdCText ctCText), slCText⟩)
    (p_cCText : PySem.W.codeIn K cdCText "card_text" = true)
    (p_kCText : PySem.W.keepIn K (.ref fCText) = true)
    (p_aAnswer : PySem.W.nsIn K mainGlobals "answer_of" = some (some (.ref fAnswer)))
    (p_lAnswer : K.lookup fAnswer = some ⟨ocAnswer, odAnswer, .func (PySem.W.fnOf "answer_of" "answer_of" (defArgs sAnswer) (defBody sAnswer) (defScope sAnswer) .none kVAnswer dcAnswer pmAnswer anAnswer cdAnswer ctAnswer), slAnswer⟩)
    (p_cAnswer : PySem.W.codeIn K cdAnswer "answer_of" = true)
    (p_kAnswer : PySem.W.keepIn K (.ref fAnswer) = true)
    (p_aCOne : PySem.W.nsIn K mainGlobals "one_text" = some (some (.ref fCOne)))
    (p_lCOne : K.lookup fCOne = some ⟨ocCOne, odCOne, .func (PySem.W.fnOf "one_text" "one_text" (defArgs sCOne) (defBody sCOne) (defScope sCOne) .none kVCOne dcCOne pmCOne anCOne cdCOne ctCOne), slCOne⟩)
    (p_cCOne : PySem.W.codeIn K cdCOne "one_text" = true)
    (p_kCOne : PySem.W.keepIn K (.ref fCOne) = true)
    (p_i2F : PySem.W.nsIn K NF "__setattr__" = some none)
    (p_i3F : PySem.W.nsIn K NF "__getattribute__" = some none)
    (p_i4F : PySem.W.nsIn K NF "__getattr__" = some none)
    (p_i5F : PySem.W.nsIn K NF "kind" = some none)
    (p_i6F : PySem.W.nsIn K NF "place" = some none)
    (p_fnF : PySem.W.typeIn K (.ref fFI) = some (.type "function"))
    (p_kpF : PySem.W.keepIn K (.ref CF) = true)
    (p_pgCL : PySem.W.plainGet K CL Str.empty = true)
    (p_hdCL : PySem.W.hasDictIn K CL = true)
    (p_poCL : PySem.W.plainOver K CL = true)
    (p_saCL : PySem.W.findIn K (.ref CL) "__setattr__" = some (some (.builtin "object.__setattr__")))
    (p_mkCL : PySem.W.makesIn K CL = true)
    (p_kcCL : PySem.W.keepIn K (.ref CL) = true)
    (p_nCL_words : PySem.W.findIn K (.ref CL) "words" = some none)
    (p_nCL_end : PySem.W.findIn K (.ref CL) "end" = some none)
    (p_nCL_taken : PySem.W.findIn K (.ref CL) "taken" = some none)
    (p_nCL_place : PySem.W.findIn K (.ref CL) "place" = some none)
    (p_pgCR : PySem.W.plainGet K CR Str.empty = true)
    (p_hdCR : PySem.W.hasDictIn K CR = true)
    (p_poCR : PySem.W.plainOver K CR = true)
    (p_saCR : PySem.W.findIn K (.ref CR) "__setattr__" = some (some (.builtin "object.__setattr__")))
    (p_mkCR : PySem.W.makesIn K CR = true)
    (p_kcCR : PySem.W.keepIn K (.ref CR) = true)
    (p_nCR_runners : PySem.W.findIn K (.ref CR) "runners" = some none)
    (p_nCR_couples : PySem.W.findIn K (.ref CR) "couples" = some none)
    (p_pgCP : PySem.W.plainGet K CP Str.empty = true)
    (p_hdCP : PySem.W.hasDictIn K CP = true)
    (p_poCP : PySem.W.plainOver K CP = true)
    (p_saCP : PySem.W.findIn K (.ref CP) "__setattr__" = some (some (.builtin "object.__setattr__")))
    (p_mkCP : PySem.W.makesIn K CP = true)
    (p_kcCP : PySem.W.keepIn K (.ref CP) = true)
    (p_nCP_name : PySem.W.findIn K (.ref CP) "name" = some none)
    (p_nCP_kind : PySem.W.findIn K (.ref CP) "kind" = some none)
    (p_nCP_k : PySem.W.findIn K (.ref CP) "k" = some none)
    (p_nCP_race : PySem.W.findIn K (.ref CP) "race" = some none)
    (p_nCP_take : PySem.W.findIn K (.ref CP) "take" = some none)
    (p_nCP_brk : PySem.W.findIn K (.ref CP) "brk" = some none)
    (p_nCP_least : PySem.W.findIn K (.ref CP) "least" = some none)
    (p_nCP_unit : PySem.W.findIn K (.ref CP) "unit" = some none)
    (p_nCP_none : PySem.W.findIn K (.ref CP) "none" = some none)
    (p_pgCC : PySem.W.plainGet K CC Str.empty = true)
    (p_hdCC : PySem.W.hasDictIn K CC = true)
    (p_poCC : PySem.W.plainOver K CC = true)
    (p_saCC : PySem.W.findIn K (.ref CC) "__setattr__" = some (some (.builtin "object.__setattr__")))
    (p_mkCC : PySem.W.makesIn K CC = true)
    (p_kcCC : PySem.W.keepIn K (.ref CC) = true)
    (p_nCC_day_name : PySem.W.findIn K (.ref CC) "day_name" = some none)
    (p_nCC_races : PySem.W.findIn K (.ref CC) "races" = some none)
    (p_nCC_pools : PySem.W.findIn K (.ref CC) "pools" = some none)
    (p_vNOTENDED : PySem.W.nsIn K mainGlobals "NOT_ENDED" = some (some (.int 1 tkNOTENDED)))
    (p_vBADBYTE : PySem.W.nsIn K mainGlobals "BAD_BYTE" = some (some (.int 2 tkBADBYTE)))
    (p_vBADWORD : PySem.W.nsIn K mainGlobals "BAD_WORD" = some (some (.int 3 tkBADWORD)))
    (p_vBADVALUE : PySem.W.nsIn K mainGlobals "BAD_VALUE" = some (some (.int 4 tkBADVALUE)))
    (p_vNAMEISTHERE : PySem.W.nsIn K mainGlobals "NAME_IS_THERE" = some (some (.int 5 tkNAMEISTHERE)))
    (p_vTOOMANY : PySem.W.nsIn K mainGlobals "TOO_MANY" = some (some (.int 6 tkTOOMANY)))
    (p_vFEWINTERESTS : PySem.W.nsIn K mainGlobals "FEW_INTERESTS" = some (some (.int 7 tkFEWINTERESTS)))
    (p_vNORACE : PySem.W.nsIn K mainGlobals "NO_RACE" = some (some (.int 8 tkNORACE)))
    (p_vNL : PySem.W.nsIn K mainGlobals "NL" = some (some (.int 10 tkNL)))
    (p_vBLANK : PySem.W.nsIn K mainGlobals "BLANK" = some (some (.int 32 tkBLANK)))
    (p_vLASTSIGN : PySem.W.nsIn K mainGlobals "LAST_SIGN" = some (some (.int 126 tkLASTSIGN)))
    (p_vDIGIT0 : PySem.W.nsIn K mainGlobals "DIGIT_0" = some (some (.int 48 tkDIGIT0)))
    (p_vDIGIT9 : PySem.W.nsIn K mainGlobals "DIGIT_9" = some (some (.int 57 tkDIGIT9)))
    (p_vLETTERA : PySem.W.nsIn K mainGlobals "LETTER_A" = some (some (.int 97 tkLETTERA)))
    (p_vLETTERZ : PySem.W.nsIn K mainGlobals "LETTER_Z" = some (some (.int 122 tkLETTERZ)))
    (p_vMOSTNAME : PySem.W.nsIn K mainGlobals "MOST_NAME" = some (some (.int 12 tkMOSTNAME)))
    (p_vMOSTDIGITS : PySem.W.nsIn K mainGlobals "MOST_DIGITS" = some (some (.int 5 tkMOSTDIGITS)))
    (p_vMOSTRACES : PySem.W.nsIn K mainGlobals "MOST_RACES" = some (some (.int 16 tkMOSTRACES)))
    (p_vMOSTPOOLS : PySem.W.nsIn K mainGlobals "MOST_POOLS" = some (some (.int 64 tkMOSTPOOLS)))
    (p_vMOSTCOUPLES : PySem.W.nsIn K mainGlobals "MOST_COUPLES" = some (some (.int 8 tkMOSTCOUPLES)))
    (p_vRACELINE : PySem.W.nsIn K mainGlobals "RACE_LINE" = some (some (.int 0 tkRACELINE)))
    (p_vPLACE : PySem.W.nsIn K mainGlobals "PLACE" = some (some (.int 0 tkPLACE)))
    (p_vLEGS : PySem.W.nsIn K mainGlobals "LEGS" = some (some (.int 3 tkLEGS)))
    (p_vMOSTBYTES : PySem.W.nsIn K mainGlobals "MOST_BYTES" = some (some (.int 65536 tkMOSTBYTES)))
    (p_vDONE : PySem.W.nsIn K mainGlobals "DONE" = some (some (.int 0 tkDONE)))
    (p_vTOOLONG : PySem.W.nsIn K mainGlobals "TOO_LONG" = some (some (.int (-2) tkTOOLONG)))
    (p_vFAULTY : PySem.W.nsIn K mainGlobals "FAULTY" = some (some (.int (-6) tkFAULTY)))
    (p_wHEADINGS : PySem.W.nsIn K mainGlobals "HEADINGS" = some (some (.ref hHEADINGS)))
    (p_lHEADINGS : K.lookup hHEADINGS = some ⟨.type "tuple", tcHEADINGS, .seq #[.str "race" uHEADINGS0, .str "pool" uHEADINGS1] tnHEADINGS, tsHEADINGS⟩)
    (p_wKINDS : PySem.W.nsIn K mainGlobals "KINDS" = some (some (.ref hKINDS)))
    (p_lKINDS : K.lookup hKINDS = some ⟨.type "tuple", tcKINDS, .seq #[.str "place" uKINDS0, .str "order" uKINDS1, .str "any" uKINDS2, .str "legs" uKINDS3] tnKINDS, tsKINDS⟩)
    (p_wLEASTK : PySem.W.nsIn K mainGlobals "LEAST_K" = some (some (.ref hLEASTK)))
    (p_lLEASTK : K.lookup hLEASTK = some ⟨.type "tuple", tcLEASTK, .seq #[.int 1 uLEASTK0, .int 2 uLEASTK1, .int 2 uLEASTK2, .int 2 uLEASTK3] tnLEASTK, tsLEASTK⟩)
    (p_wMOSTK : PySem.W.nsIn K mainGlobals "MOST_K" = some (some (.ref hMOSTK)))
    (p_lMOSTK : K.lookup hMOSTK = some ⟨.type "tuple", tcMOSTK, .seq #[.int 4 uMOSTK0, .int 4 uMOSTK1, .int 3 uMOSTK2, .int 6 uMOSTK3] tnMOSTK, tsMOSTK⟩)
    (p_wNONES : PySem.W.nsIn K mainGlobals "NONES" = some (some (.ref hNONES)))
    (p_lNONES : K.lookup hNONES = some ⟨.type "tuple", tcNONES, .seq #[.str "refund" uNONES0, .str "carry" uNONES1, .str "fewer" uNONES2] tnNONES, tsNONES⟩)
    (p_wNONESOFPLACE : PySem.W.nsIn K mainGlobals "NONES_OF_PLACE" = some (some (.ref hNONESOFPLACE)))
    (p_lNONESOFPLACE : K.lookup hNONESOFPLACE = some ⟨.type "tuple", tcNONESOFPLACE, .seq #[.str "refund" uNONESOFPLACE0, .str "carry" uNONESOFPLACE1] tnNONESOFPLACE, tsNONESOFPLACE⟩)
    (p_z_len : PySem.W.nsIn K mainGlobals "len" = some none)
    (p_z_ord : PySem.W.nsIn K mainGlobals "ord" = some none)
    (p_z_range : PySem.W.nsIn K mainGlobals "range" = some none)
    (p_z_enumerate : PySem.W.nsIn K mainGlobals "enumerate" = some none)
    (p_z_sorted : PySem.W.nsIn K mainGlobals "sorted" = some none)
    (p_z_str : PySem.W.nsIn K mainGlobals "str" = some none)
    : ∃ a : Ad, Txt K mg a ∧ a.fCOne = fa ∧ a.dByB.code = cdByB := by
  have FFI := fun_mk (st := sFI) p_lFI p_cFI p_kFI
  have FLI := fun_mk (st := sLI) p_lLI p_cLI p_kLI
  have FAny := fun_mk (st := sAny) p_lAny p_cAny p_kAny
  have FNext := fun_mk (st := sNext) p_lNext p_cNext p_kNext
  have FChoice := fun_mk (st := sChoice) p_lChoice p_cChoice p_kChoice
  have FFixed := fun_mk (st := sFixed) p_lFixed p_cFixed p_kFixed
  have FTName := fun_mk (st := sTName) p_lTName p_cTName p_kTName
  have FNum := fun_mk (st := sNum) p_lNum p_cNum p_kNum
  have FRule := fun_mk (st := sRule) p_lRule p_cRule p_kRule
  have FFin := fun_mk (st := sFin) p_lFin p_cFin p_kFin
  have FBytes := fun_mk (st := sBytes) p_lBytes p_cBytes p_kBytes
  have FLetter := fun_mk (st := sLetter) p_lLetter p_cLetter p_kLetter
  have FDigit := fun_mk (st := sDigit) p_lDigit p_cDigit p_kDigit
  have FIsName := fun_mk (st := sIsName) p_lIsName p_cIsName p_kIsName
  have FNumOf := fun_mk (st := sNumOf) p_lNumOf p_cNumOf p_kNumOf
  have FLEnd := fun_mk (st := sLEnd) p_lLEnd p_cLEnd p_kLEnd
  have FBad := fun_mk (st := sBad) p_lBad p_cBad p_kBad
  have FCheck := fun_mk (st := sCheck) p_lCheck p_cCheck p_kCheck
  have FSplit := fun_mk (st := sSplit) p_lSplit p_cSplit p_kSplit
  have FLFrom := fun_mk (st := sLFrom) p_lLFrom p_cLFrom p_kLFrom
  have FRI := fun_mk (st := sRI) p_lRI p_cRI p_kRI
  have FInt := fun_mk (st := sInt) p_lInt p_cInt p_kInt
  have FByB := fun_mk (st := sByB) p_lByB p_cByB p_kByB
  have FPI := fun_mk (st := sPI) p_lPI p_cPI p_kPI
  have FCI := fun_mk (st := sCI) p_lCI p_cCI p_kCI
  have FDay := fun_mk (st := sDay) p_lDay p_cDay p_kDay
  have FCouple := fun_mk (st := sCouple) p_lCouple p_cCouple p_kCouple
  have FRace := fun_mk (st := sRace) p_lRace p_cRace p_kRace
  have FPName := fun_mk (st := sPName) p_lPName p_cPName p_kPName
  have FPool := fun_mk (st := sPool) p_lPool p_cPool p_kPool
  have FAddR := fun_mk (st := sAddR) p_lAddR p_cAddR p_kAddR
  have FAddP := fun_mk (st := sAddP) p_lAddP p_cAddP p_kAddP
  have FCard := fun_mk (st := sCard) p_lCard p_cCard p_kCard
  have FRText := fun_mk (st := sRText) p_lRText p_cRText p_kRText
  have FPText := fun_mk (st := sPText) p_lPText p_cPText p_kPText
  have FCText := fun_mk (st := sCText) p_lCText p_cCText p_kCText
  have FAnswer := fun_mk (st := sAnswer) p_lAnswer p_cAnswer p_kAnswer
  have FCOne := fun_mk (st := sCOne) p_lCOne p_cCOne p_kCOne
  have bFI := FFI.binds (ps := ["self", "kind", "place"]) fun _ _ _ _ _ _ us hl => by obtain ⟨_, _, _, rfl⟩ := len3 hl; rfl
  have bLI := FLI.binds (ps := ["self", "words", "end"]) fun _ _ _ _ _ _ us hl => by obtain ⟨_, _, _, rfl⟩ := len3 hl; rfl
  have bAny := FAny.binds (ps := ["self"]) fun _ _ _ _ _ _ us hl => by obtain ⟨_, rfl⟩ := len1 hl; rfl
  have bNext := FNext.binds (ps := ["self"]) fun _ _ _ _ _ _ us hl => by obtain ⟨_, rfl⟩ := len1 hl; rfl
  have bChoice := FChoice.binds (ps := ["self", "choices"]) fun _ _ _ _ _ _ us hl => by obtain ⟨_, _, rfl⟩ := len2 hl; rfl
  have bFixed := FFixed.binds (ps := ["self", "wanted"]) fun _ _ _ _ _ _ us hl => by obtain ⟨_, _, rfl⟩ := len2 hl; rfl
  have bTName := FTName.binds (ps := ["self"]) fun _ _ _ _ _ _ us hl => by obtain ⟨_, rfl⟩ := len1 hl; rfl
  have bNum := FNum.binds (ps := ["self", "low", "high"]) fun _ _ _ _ _ _ us hl => by obtain ⟨_, _, _, rfl⟩ := len3 hl; rfl
  have bRule := FRule.binds (ps := ["self", "wanted", "low", "high"]) fun _ _ _ _ _ _ us hl => by obtain ⟨_, _, _, _, rfl⟩ := len4 hl; rfl
  have bFin := FFin.binds (ps := ["self"]) fun _ _ _ _ _ _ us hl => by obtain ⟨_, rfl⟩ := len1 hl; rfl
  have bBytes := FBytes.binds (ps := ["words"]) fun _ _ _ _ _ _ us hl => by obtain ⟨_, rfl⟩ := len1 hl; rfl
  have bLetter := FLetter.binds (ps := ["byte"]) fun _ _ _ _ _ _ us hl => by obtain ⟨_, rfl⟩ := len1 hl; rfl
  have bDigit := FDigit.binds (ps := ["byte"]) fun _ _ _ _ _ _ us hl => by obtain ⟨_, rfl⟩ := len1 hl; rfl
  have bIsName := FIsName.binds (ps := ["word"]) fun _ _ _ _ _ _ us hl => by obtain ⟨_, rfl⟩ := len1 hl; rfl
  have bNumOf := FNumOf.binds (ps := ["word"]) fun _ _ _ _ _ _ us hl => by obtain ⟨_, rfl⟩ := len1 hl; rfl
  have bLEnd := FLEnd.binds (ps := ["text", "start"]) fun _ _ _ _ _ _ us hl => by obtain ⟨_, _, rfl⟩ := len2 hl; rfl
  have bBad := FBad.binds (ps := ["text", "place", "start", "end"]) fun _ _ _ _ _ _ us hl => by obtain ⟨_, _, _, _, rfl⟩ := len4 hl; rfl
  have bCheck := FCheck.binds (ps := ["text", "start", "end"]) fun _ _ _ _ _ _ us hl => by obtain ⟨_, _, _, rfl⟩ := len3 hl; rfl
  have bSplit := FSplit.binds (ps := ["text", "start", "end"]) fun _ _ _ _ _ _ us hl => by obtain ⟨_, _, _, rfl⟩ := len3 hl; rfl
  have bLFrom := FLFrom.binds (ps := ["text", "start"]) fun _ _ _ _ _ _ us hl => by obtain ⟨_, _, rfl⟩ := len2 hl; rfl
  have bRI := FRI.binds (ps := ["self", "runners"]) fun _ _ _ _ _ _ us hl => by obtain ⟨_, _, rfl⟩ := len2 hl; rfl
  have bInt := FInt.binds (ps := ["self"]) fun _ _ _ _ _ _ us hl => by obtain ⟨_, rfl⟩ := len1 hl; rfl
  have bByB := FByB.binds (ps := ["self"]) fun _ _ _ _ _ _ us hl => by obtain ⟨_, rfl⟩ := len1 hl; rfl
  have bPI := FPI.binds (ps := ["self", "name", "kind", "k", "race", "take", "brk", "least", "unit", "none"]) fun _ _ _ _ _ _ us hl => by obtain ⟨_, _, _, _, _, _, _, _, _, _, rfl⟩ := len10 hl; rfl
  have bCI := FCI.binds (ps := ["self", "day_name"]) fun _ _ _ _ _ _ us hl => by obtain ⟨_, _, rfl⟩ := len2 hl; rfl
  have bDay := FDay.binds (ps := ["line"]) fun _ _ _ _ _ _ us hl => by obtain ⟨_, rfl⟩ := len1 hl; rfl
  have bCouple := FCouple.binds (ps := ["line", "race"]) fun _ _ _ _ _ _ us hl => by obtain ⟨_, _, rfl⟩ := len2 hl; rfl
  have bRace := FRace.binds (ps := ["line"]) fun _ _ _ _ _ _ us hl => by obtain ⟨_, rfl⟩ := len1 hl; rfl
  have bPName := FPName.binds (ps := ["line", "card"]) fun _ _ _ _ _ _ us hl => by obtain ⟨_, _, rfl⟩ := len2 hl; rfl
  have bPool := FPool.binds (ps := ["line", "card"]) fun _ _ _ _ _ _ us hl => by obtain ⟨_, _, rfl⟩ := len2 hl; rfl
  have bAddR := FAddR.binds (ps := ["line", "card"]) fun _ _ _ _ _ _ us hl => by obtain ⟨_, _, rfl⟩ := len2 hl; rfl
  have bAddP := FAddP.binds (ps := ["line", "card"]) fun _ _ _ _ _ _ us hl => by obtain ⟨_, _, rfl⟩ := len2 hl; rfl
  have bCard := FCard.binds (ps := ["text"]) fun _ _ _ _ _ _ us hl => by obtain ⟨_, rfl⟩ := len1 hl; rfl
  have bRText := FRText.binds (ps := ["race"]) fun _ _ _ _ _ _ us hl => by obtain ⟨_, rfl⟩ := len1 hl; rfl
  have bPText := FPText.binds (ps := ["pool"]) fun _ _ _ _ _ _ us hl => by obtain ⟨_, rfl⟩ := len1 hl; rfl
  have bCText := FCText.binds (ps := ["card"]) fun _ _ _ _ _ _ us hl => by obtain ⟨_, rfl⟩ := len1 hl; rfl
  have bAnswer := FAnswer.binds (ps := ["text", "tell"]) fun _ _ _ _ _ _ us hl => by obtain ⟨_, _, rfl⟩ := len2 hl; rfl
  have bCOne := FCOne.binds (ps := ["text"]) fun _ _ _ _ _ _ us hl => by obtain ⟨_, rfl⟩ := len1 hl; rfl
  have e := hfa.symm.trans (PySem.W.mg_of X G p_aCOne)
  cases e
  refine ⟨{ CF := CF, CL := CL, CR := CR, CP := CP, CC := CC, fFI := fFI, dFI := PySem.W.fnOf "__init__" "Fault.__init__" (defArgs sFI) (defBody sFI) (defScope sFI) .none kVFI dcFI pmFI anFI cdFI ctFI, fLI := fLI, dLI := PySem.W.fnOf "__init__" "Line.__init__" (defArgs sLI) (defBody sLI) (defScope sLI) .none kVLI dcLI pmLI anLI cdLI ctLI, fAny := fAny, dAny := PySem.W.fnOf "any_left" "Line.any_left" (defArgs sAny) (defBody sAny) (defScope sAny) .none kVAny dcAny pmAny anAny cdAny ctAny, fNext := fNext, dNext := PySem.W.fnOf "next_word" "Line.next_word" (defArgs sNext) (defBody sNext) (defScope sNext) .none kVNext dcNext pmNext anNext cdNext ctNext, fChoice := fChoice, dChoice := PySem.W.fnOf "take_choice" "Line.take_choice" (defArgs sChoice) (defBody sChoice) (defScope sChoice) .none kVChoice dcChoice pmChoice anChoice cdChoice ctChoice, fFixed := fFixed, dFixed := PySem.W.fnOf "take_fixed" "Line.take_fixed" (defArgs sFixed) (defBody sFixed) (defScope sFixed) .none kVFixed dcFixed pmFixed anFixed cdFixed ctFixed, fTName := fTName, dTName := PySem.W.fnOf "take_name" "Line.take_name" (defArgs sTName) (defBody sTName) (defScope sTName) .none kVTName dcTName pmTName anTName cdTName ctTName, fNum := fNum, dNum := PySem.W.fnOf "take_number" "Line.take_number" (defArgs sNum) (defBody sNum) (defScope sNum) .none kVNum dcNum pmNum anNum cdNum ctNum, fRule := fRule, dRule := PySem.W.fnOf "take_rule" "Line.take_rule" (defArgs sRule) (defBody sRule) (defScope sRule) .none kVRule dcRule pmRule anRule cdRule ctRule, fFin := fFin, dFin := PySem.W.fnOf "finish" "Line.finish" (defArgs sFin) (defBody sFin) (defScope sFin) .none kVFin dcFin pmFin anFin cdFin ctFin, fBytes := fBytes, dBytes := PySem.W.fnOf "bytes_of" "bytes_of" (defArgs sBytes) (defBody sBytes) (defScope sBytes) .none kVBytes dcBytes pmBytes anBytes cdBytes ctBytes, fLetter := fLetter, dLetter := PySem.W.fnOf "is_letter" "is_letter" (defArgs sLetter) (defBody sLetter) (defScope sLetter) .none kVLetter dcLetter pmLetter anLetter cdLetter ctLetter, fDigit := fDigit, dDigit := PySem.W.fnOf "is_digit" "is_digit" (defArgs sDigit) (defBody sDigit) (defScope sDigit) .none kVDigit dcDigit pmDigit anDigit cdDigit ctDigit, fIsName := fIsName, dIsName := PySem.W.fnOf "is_name" "is_name" (defArgs sIsName) (defBody sIsName) (defScope sIsName) .none kVIsName dcIsName pmIsName anIsName cdIsName ctIsName, fNumOf := fNumOf, dNumOf := PySem.W.fnOf "number_of" "number_of" (defArgs sNumOf) (defBody sNumOf) (defScope sNumOf) .none kVNumOf dcNumOf pmNumOf anNumOf cdNumOf ctNumOf, fLEnd := fLEnd, dLEnd := PySem.W.fnOf "line_end" "line_end" (defArgs sLEnd) (defBody sLEnd) (defScope sLEnd) .none kVLEnd dcLEnd pmLEnd anLEnd cdLEnd ctLEnd, fBad := fBad, dBad := PySem.W.fnOf "is_bad_byte" "is_bad_byte" (defArgs sBad) (defBody sBad) (defScope sBad) .none kVBad dcBad pmBad anBad cdBad ctBad, fCheck := fCheck, dCheck := PySem.W.fnOf "check_bytes" "check_bytes" (defArgs sCheck) (defBody sCheck) (defScope sCheck) .none kVCheck dcCheck pmCheck anCheck cdCheck ctCheck, fSplit := fSplit, dSplit := PySem.W.fnOf "split_words" "split_words" (defArgs sSplit) (defBody sSplit) (defScope sSplit) .none kVSplit dcSplit pmSplit anSplit cdSplit ctSplit, fLFrom := fLFrom, dLFrom := PySem.W.fnOf "line_from" "line_from" (defArgs sLFrom) (defBody sLFrom) (defScope sLFrom) .none kVLFrom dcLFrom pmLFrom anLFrom cdLFrom ctLFrom, fRI := fRI, dRI := PySem.W.fnOf "__init__" "Race.__init__" (defArgs sRI) (defBody sRI) (defScope sRI) .none kVRI dcRI pmRI anRI cdRI ctRI, fInt := fInt, dInt := PySem.W.fnOf "interests" "Race.interests" (defArgs sInt) (defBody sInt) (defScope sInt) .none kVInt dcInt pmInt anInt cdInt ctInt, fByB := fByB, dByB := PySem.W.fnOf "couples_by_b" "Race.couples_by_b" (defArgs sByB) (defBody sByB) (defScope sByB) .none kVByB dcByB pmByB anByB cdByB ctByB, fPI := fPI, dPI := PySem.W.fnOf "__init__" "Pool.__init__" (defArgs sPI) (defBody sPI) (defScope sPI) .none kVPI dcPI pmPI anPI cdPI ctPI, fCI := fCI, dCI := PySem.W.fnOf "__init__" "Card.__init__" (defArgs sCI) (defBody sCI) (defScope sCI) .none kVCI dcCI pmCI anCI cdCI ctCI, fDay := fDay, dDay := PySem.W.fnOf "read_day" "read_day" (defArgs sDay) (defBody sDay) (defScope sDay) .none kVDay dcDay pmDay anDay cdDay ctDay, fCouple := fCouple, dCouple := PySem.W.fnOf "read_couple" "read_couple" (defArgs sCouple) (defBody sCouple) (defScope sCouple) .none kVCouple dcCouple pmCouple anCouple cdCouple ctCouple, fRace := fRace, dRace := PySem.W.fnOf "read_race" "read_race" (defArgs sRace) (defBody sRace) (defScope sRace) .none kVRace dcRace pmRace anRace cdRace ctRace, fPName := fPName, dPName := PySem.W.fnOf "read_pool_name" "read_pool_name" (defArgs sPName) (defBody sPName) (defScope sPName) .none kVPName dcPName pmPName anPName cdPName ctPName, fPool := fPool, dPool := PySem.W.fnOf "read_pool" "read_pool" (defArgs sPool) (defBody sPool) (defScope sPool) .none kVPool dcPool pmPool anPool cdPool ctPool, fAddR := fAddR, dAddR := PySem.W.fnOf "add_race" "add_race" (defArgs sAddR) (defBody sAddR) (defScope sAddR) .none kVAddR dcAddR pmAddR anAddR cdAddR ctAddR, fAddP := fAddP, dAddP := PySem.W.fnOf "add_pool" "add_pool" (defArgs sAddP) (defBody sAddP) (defScope sAddP) .none kVAddP dcAddP pmAddP anAddP cdAddP ctAddP, fCard := fCard, dCard := PySem.W.fnOf "read_card" "read_card" (defArgs sCard) (defBody sCard) (defScope sCard) .none kVCard dcCard pmCard anCard cdCard ctCard, fRText := fRText, dRText := PySem.W.fnOf "race_text" "race_text" (defArgs sRText) (defBody sRText) (defScope sRText) .none kVRText dcRText pmRText anRText cdRText ctRText, fPText := fPText, dPText := PySem.W.fnOf "pool_text" "pool_text" (defArgs sPText) (defBody sPText) (defScope sPText) .none kVPText dcPText pmPText anPText cdPText ctPText, fCText := fCText, dCText := PySem.W.fnOf "card_text" "card_text" (defArgs sCText) (defBody sCText) (defScope sCText) .none kVCText dcCText pmCText anCText cdCText ctCText, fAnswer := fAnswer, dAnswer := PySem.W.fnOf "answer_of" "answer_of" (defArgs sAnswer) (defBody sAnswer) (defScope sAnswer) .none kVAnswer dcAnswer pmAnswer anAnswer cdAnswer ctAnswer, fCOne := fa, dCOne := PySem.W.fnOf "one_text" "one_text" (defArgs sCOne) (defBody sCOne) (defScope sCOne) .none kVCOne dcCOne pmCOne anCOne cdCOne ctCOne, hHEADINGS := hHEADINGS, hKINDS := hKINDS, hLEASTK := hLEASTK, hMOSTK := hMOSTK, hNONES := hNONES, hNONESOFPLACE := hNONESOFPLACE }, ?_, rfl, rfl⟩
  exact {
    FFI := FFI
    bFI := bFI
    FLI := FLI
    bLI := bLI
    FAny := FAny
    bAny := bAny
    mAny := ⟨p_aAny, p_iAny, p_kAny⟩
    FNext := FNext
    bNext := bNext
    mNext := ⟨p_aNext, p_iNext, p_kNext⟩
    FChoice := FChoice
    bChoice := bChoice
    mChoice := ⟨p_aChoice, p_iChoice, p_kChoice⟩
    FFixed := FFixed
    bFixed := bFixed
    mFixed := ⟨p_aFixed, p_iFixed, p_kFixed⟩
    FTName := FTName
    bTName := bTName
    mTName := ⟨p_aTName, p_iTName, p_kTName⟩
    FNum := FNum
    bNum := bNum
    mNum := ⟨p_aNum, p_iNum, p_kNum⟩
    FRule := FRule
    bRule := bRule
    mRule := ⟨p_aRule, p_iRule, p_kRule⟩
    FFin := FFin
    bFin := bFin
    mFin := ⟨p_aFin, p_iFin, p_kFin⟩
    FBytes := FBytes
    bBytes := bBytes
    gBytes := PySem.W.mg_of X G p_aBytes
    FLetter := FLetter
    bLetter := bLetter
    gLetter := PySem.W.mg_of X G p_aLetter
    FDigit := FDigit
    bDigit := bDigit
    gDigit := PySem.W.mg_of X G p_aDigit
    FIsName := FIsName
    bIsName := bIsName
    gIsName := PySem.W.mg_of X G p_aIsName
    FNumOf := FNumOf
    bNumOf := bNumOf
    gNumOf := PySem.W.mg_of X G p_aNumOf
    FLEnd := FLEnd
    bLEnd := bLEnd
    gLEnd := PySem.W.mg_of X G p_aLEnd
    FBad := FBad
    bBad := bBad
    gBad := PySem.W.mg_of X G p_aBad
    FCheck := FCheck
    bCheck := bCheck
    gCheck := PySem.W.mg_of X G p_aCheck
    FSplit := FSplit
    bSplit := bSplit
    gSplit := PySem.W.mg_of X G p_aSplit
    FLFrom := FLFrom
    bLFrom := bLFrom
    gLFrom := PySem.W.mg_of X G p_aLFrom
    FRI := FRI
    bRI := bRI
    FInt := FInt
    bInt := bInt
    mInt := ⟨p_aInt, p_iInt, p_kInt⟩
    FByB := FByB
    bByB := bByB
    mByB := ⟨p_aByB, p_iByB, p_kByB⟩
    FPI := FPI
    bPI := bPI
    FCI := FCI
    bCI := bCI
    FDay := FDay
    bDay := bDay
    gDay := PySem.W.mg_of X G p_aDay
    FCouple := FCouple
    bCouple := bCouple
    gCouple := PySem.W.mg_of X G p_aCouple
    FRace := FRace
    bRace := bRace
    gRace := PySem.W.mg_of X G p_aRace
    FPName := FPName
    bPName := bPName
    gPName := PySem.W.mg_of X G p_aPName
    FPool := FPool
    bPool := bPool
    gPool := PySem.W.mg_of X G p_aPool
    FAddR := FAddR
    bAddR := bAddR
    gAddR := PySem.W.mg_of X G p_aAddR
    FAddP := FAddP
    bAddP := bAddP
    gAddP := PySem.W.mg_of X G p_aAddP
    FCard := FCard
    bCard := bCard
    gCard := PySem.W.mg_of X G p_aCard
    FRText := FRText
    bRText := bRText
    gRText := PySem.W.mg_of X G p_aRText
    FPText := FPText
    bPText := bPText
    gPText := PySem.W.mg_of X G p_aPText
    FCText := FCText
    bCText := bCText
    gCText := PySem.W.mg_of X G p_aCText
    FAnswer := FAnswer
    bAnswer := bAnswer
    gAnswer := PySem.W.mg_of X G p_aAnswer
    FCOne := FCOne
    bCOne := bCOne
    gCOne := PySem.W.mg_of X G p_aCOne
    gCF := PySem.W.mg_of X G p_aCF
    xF := xcls_mk p_lCF p_lNF p_skF p_i1F p_i2F p_i3F p_i4F p_i5F p_i6F p_fnF p_kpF
    gCL := PySem.W.mg_of X G p_aCL
    cCL := ⟨p_pgCL, p_hdCL, p_poCL, p_saCL⟩
    kCL := ⟨p_mkCL, p_aLI, p_iLI, p_kcCL⟩
    nCL_words := p_nCL_words
    nCL_end := p_nCL_end
    nCL_taken := p_nCL_taken
    nCL_place := p_nCL_place
    gCR := PySem.W.mg_of X G p_aCR
    cCR := ⟨p_pgCR, p_hdCR, p_poCR, p_saCR⟩
    kCR := ⟨p_mkCR, p_aRI, p_iRI, p_kcCR⟩
    nCR_runners := p_nCR_runners
    nCR_couples := p_nCR_couples
    gCP := PySem.W.mg_of X G p_aCP
    cCP := ⟨p_pgCP, p_hdCP, p_poCP, p_saCP⟩
    kCP := ⟨p_mkCP, p_aPI, p_iPI, p_kcCP⟩
    nCP_name := p_nCP_name
    nCP_kind := p_nCP_kind
    nCP_k := p_nCP_k
    nCP_race := p_nCP_race
    nCP_take := p_nCP_take
    nCP_brk := p_nCP_brk
    nCP_least := p_nCP_least
    nCP_unit := p_nCP_unit
    nCP_none := p_nCP_none
    gCC := PySem.W.mg_of X G p_aCC
    cCC := ⟨p_pgCC, p_hdCC, p_poCC, p_saCC⟩
    kCC := ⟨p_mkCC, p_aCI, p_iCI, p_kcCC⟩
    nCC_day_name := p_nCC_day_name
    nCC_races := p_nCC_races
    nCC_pools := p_nCC_pools
    v_NOTENDED := ⟨_, PySem.W.mg_of X G p_vNOTENDED⟩
    v_BADBYTE := ⟨_, PySem.W.mg_of X G p_vBADBYTE⟩
    v_BADWORD := ⟨_, PySem.W.mg_of X G p_vBADWORD⟩
    v_BADVALUE := ⟨_, PySem.W.mg_of X G p_vBADVALUE⟩
    v_NAMEISTHERE := ⟨_, PySem.W.mg_of X G p_vNAMEISTHERE⟩
    v_TOOMANY := ⟨_, PySem.W.mg_of X G p_vTOOMANY⟩
    v_FEWINTERESTS := ⟨_, PySem.W.mg_of X G p_vFEWINTERESTS⟩
    v_NORACE := ⟨_, PySem.W.mg_of X G p_vNORACE⟩
    v_NL := ⟨_, PySem.W.mg_of X G p_vNL⟩
    v_BLANK := ⟨_, PySem.W.mg_of X G p_vBLANK⟩
    v_LASTSIGN := ⟨_, PySem.W.mg_of X G p_vLASTSIGN⟩
    v_DIGIT0 := ⟨_, PySem.W.mg_of X G p_vDIGIT0⟩
    v_DIGIT9 := ⟨_, PySem.W.mg_of X G p_vDIGIT9⟩
    v_LETTERA := ⟨_, PySem.W.mg_of X G p_vLETTERA⟩
    v_LETTERZ := ⟨_, PySem.W.mg_of X G p_vLETTERZ⟩
    v_MOSTNAME := ⟨_, PySem.W.mg_of X G p_vMOSTNAME⟩
    v_MOSTDIGITS := ⟨_, PySem.W.mg_of X G p_vMOSTDIGITS⟩
    v_MOSTRACES := ⟨_, PySem.W.mg_of X G p_vMOSTRACES⟩
    v_MOSTPOOLS := ⟨_, PySem.W.mg_of X G p_vMOSTPOOLS⟩
    v_MOSTCOUPLES := ⟨_, PySem.W.mg_of X G p_vMOSTCOUPLES⟩
    v_RACELINE := ⟨_, PySem.W.mg_of X G p_vRACELINE⟩
    v_PLACE := ⟨_, PySem.W.mg_of X G p_vPLACE⟩
    v_LEGS := ⟨_, PySem.W.mg_of X G p_vLEGS⟩
    v_MOSTBYTES := ⟨_, PySem.W.mg_of X G p_vMOSTBYTES⟩
    v_DONE := ⟨_, PySem.W.mg_of X G p_vDONE⟩
    v_TOOLONG := ⟨_, PySem.W.mg_of X G p_vTOOLONG⟩
    v_FAULTY := ⟨_, PySem.W.mg_of X G p_vFAULTY⟩
    g_HEADINGS := PySem.W.mg_of X G p_wHEADINGS
    t_HEADINGS := fun H => .inr ⟨_, _, _, p_lHEADINGS, rfl, rfl, by show 2 ≤ sizeLine; decide, .cons ⟨_, rfl⟩ (.cons ⟨_, rfl⟩ (.nil))⟩
    g_KINDS := PySem.W.mg_of X G p_wKINDS
    t_KINDS := fun H => .inr ⟨_, _, _, p_lKINDS, rfl, rfl, by show 4 ≤ sizeLine; decide, .cons ⟨_, rfl⟩ (.cons ⟨_, rfl⟩ (.cons ⟨_, rfl⟩ (.cons ⟨_, rfl⟩ (.nil))))⟩
    g_LEASTK := PySem.W.mg_of X G p_wLEASTK
    t_LEASTK := fun H => .inr ⟨_, _, _, p_lLEASTK, rfl, rfl, by show 4 ≤ sizeLine; decide, .cons ⟨_, rfl⟩ (.cons ⟨_, rfl⟩ (.cons ⟨_, rfl⟩ (.cons ⟨_, rfl⟩ (.nil))))⟩
    g_MOSTK := PySem.W.mg_of X G p_wMOSTK
    t_MOSTK := fun H => .inr ⟨_, _, _, p_lMOSTK, rfl, rfl, by show 4 ≤ sizeLine; decide, .cons ⟨_, rfl⟩ (.cons ⟨_, rfl⟩ (.cons ⟨_, rfl⟩ (.cons ⟨_, rfl⟩ (.nil))))⟩
    g_NONES := PySem.W.mg_of X G p_wNONES
    t_NONES := fun H => .inr ⟨_, _, _, p_lNONES, rfl, rfl, by show 3 ≤ sizeLine; decide, .cons ⟨_, rfl⟩ (.cons ⟨_, rfl⟩ (.cons ⟨_, rfl⟩ (.nil)))⟩
    g_NONESOFPLACE := PySem.W.mg_of X G p_wNONESOFPLACE
    t_NONESOFPLACE := fun H => .inr ⟨_, _, _, p_lNONESOFPLACE, rfl, rfl, by show 2 ≤ sizeLine; decide, .cons ⟨_, rfl⟩ (.cons ⟨_, rfl⟩ (.nil))⟩
    z_len := PySem.W.mg_none_of X G p_z_len
    z_ord := PySem.W.mg_none_of X G p_z_ord
    z_range := PySem.W.mg_none_of X G p_z_range
    z_enumerate := PySem.W.mg_none_of X G p_z_enumerate
    z_sorted := PySem.W.mg_none_of X G p_z_sorted
    z_str := PySem.W.mg_none_of X G p_z_str }
end RC
set_option linter.all false
namespace L2
open PySem PyProof.Rows
theorem good_list {r : PySem.W.OpenSpec} {args : List PySem.W.WData} {s₁ s' : Shared} {p : Addr} {as : List Addr} {cl : Str → Option Addr} {mean : ExcName → Option Value} {ans : List Int}
    (rd : PySem.W.ReadsW [] cl s'.heap (.ref p) (.list (ans.map PySem.W.WData.int)) as) (hp : r.post args (.list (ans.map PySem.W.WData.int)) = true) (old : OldK s₁.heap s'.heap) (os : s'.os = s₁.os) (bare : AllBare s'.gens) :
    PySem.W.GoodWG r.claim cl mean args s₁ (.ok (.ret (.ref p))) s' := ⟨.inl ⟨.ref p, _, as, rfl, fun _ => rfl, rd, hp, fun h => absurd h Bool.false_ne_true⟩, old, os, bare⟩
theorem ints_well {P : PySem.Params} {h : Heap} : ∀ {ns : List Int} {vs : List Value}, PySem.W.WellAll P h vs (ns.map PySem.W.WData.int) → IntsAre vs ns
  | [], vs, w => by cases w; exact .nil
  | n :: ns, vs, w => by
    cases w with
    | cons w1 w2 =>
      cases w1
      exact .cons _ _ (ints_well w2)
theorem code_of {K : PySem.W.Frag} {h : Heap} {x qual : Str} {st : Stmt} {f : Addr} {fd fd' : FuncData} (F : Fun K x qual st f fd) (KX : K.In h) {o : Obj} (ho : h.get? f = some o) (hd : o.data = .func fd') : fd = fd' := by
  obtain ⟨oc, od, kV, doc, pm, an, cdv, ct, osl, rfl, lk, hcd⟩ := F.ex
  have e := KX _ _ lk
  rw [ho] at e
  cases e
  cases hd
  rfl
theorem noTab_of {K : PySem.W.Frag} {h : Heap} {P : Addr} (X : K.In h) (hK : PySem.W.noTabs K = true) (hP : h.get? P = some (PySem.W.tabObj #[])) : K.lookup P = none := by
  cases e : K.lookup P with
  | none => rfl
  | some o =>
    have h1 := X _ _ e
    rw [hP] at h1
    cases h1
    have h2 := List.all_eq_true.mp hK _ (PySem.W.mem_of_lookupK e)
    exact absurd (show false = true from h2) Bool.false_ne_true
end L2
theorem RC.due_main {ns : List Int} : RC.ansO (CardNeutral.text ns) = PyWqaqcj.one_text ns := by
  unfold RC.ansO PyWqaqcj.one_text CardNeutral.f
  show _ = (ToteCardCalls.answer (.text (CardNeutral.text ns))).code :: (ToteCardCalls.answer (.text (CardNeutral.text ns))).nums.map fun (n : Nat) => (n : Int)
  have e : ToteCardCalls.answer (.text (CardNeutral.text ns)) = if Tote.TEXT < (CardNeutral.text ns).length then ToteCardCalls.says (-2) else match Tote.readCard (CardNeutral.text ns) with
    | .error _ => ToteCardCalls.says (-6)
    | .ok C => ToteCardCalls.tells (ToteCardCalls.nat8 C.text) := rfl
  rw [e]
  by_cases h : 65536 < (CardNeutral.text ns).length
  · rw [if_pos h, if_pos (show Tote.TEXT < (CardNeutral.text ns).length from h)]
    rfl
  · rw [if_neg h, if_neg (show ¬ Tote.TEXT < (CardNeutral.text ns).length from h)]
    cases Tote.readCard (CardNeutral.text ns) with
    | error f => rfl
    | ok C =>
      show 0 :: CM.I8 C.text = 0 :: (ToteCardCalls.nat8 C.text).map fun (n : Nat) => (n : Int)
      unfold CM.I8 ToteCardCalls.nat8
      rw [List.map_map]
      rfl

namespace L2
open PySem PySem.W PyProof.Rows
/-- a hook that tells of empty tables too -/
def moreHook (G : Hook) (ts : List Addr) : Hook where
  α := G.α × List (Option Obj)
  obs := fun s => (G.obs s, ts.map s.heap.get?)
  val := fun w => (G.val w, ts.map fun _ => some (tabObj #[]))
  says := fun w h => G.says w h ∧ ∀ q ∈ ts, h.get? q = some (tabObj #[])
  of := fun w s x => ⟨G.of w s (Prod.mk.inj x).1, List.map_inj_left.mp (Prod.mk.inj x).2⟩
  keeps := fun w h h' x k => ⟨G.keeps w h h' x.1 k, fun q hq => k _ _ (x.2 q hq)⟩
end L2
open PySem PySem.W PyProof.Rows
local macro_rules | `(tactic| o_headS ($f:ident $x $y $z)) => `(tactic| o_headS (L2.moreHook ($f $x $y $z) [222]))
namespace PySem.W.Fast
theorem te3057721252281127683 : True := trivial
def tw11149940479396420901 : Program := PySem.Challenge.pw_racecards_s02_one_text
theorem te11149940479396420901 : PySem.Challenge.pw_racecards_s02_one_text = tw11149940479396420901 := rfl
end PySem.W.Fast
set_option maxRecDepth 100000 in
set_option maxHeartbeats 0 in
theorem PySem.Challenge.cw_racecards_s02_one_text_holds : PySem.Challenge.rw_racecards_s02_one_text.Holds := by
  w_on; k_headS; (case hw => exact ⟨[.list []], by decide +kernel, by decide +kernel⟩)
  k_fillS
  intro w s₀ s₁ mg mb G Y fa o pm cd doc dV kV ho hd hcd hD hmg hg args vals as hpre hlay hrd hwl hlo
  have KX := kIn_of Y.1
  have T9 := G.T
  kn_lay T9 hmg ho hd cd
  have said : PySem.Challenge.rw_racecards_s02_one_text.wellSaid = true := by decide +kernel
  have V0 : ∃ a : List Int × Unit, Codec.withinAll PySem.Challenge.fa_racecards_s02_one_text a = true ∧ args = [.list (a.1.map .int)] := by
    obtain ⟨a, h1, _, h2⟩ := (OpenSpec.pre_iff said args).mp hpre
    exact ⟨a, h1, h2⟩
  obtain ⟨⟨ns, u⟩, hwi, rfl⟩ := V0
  have bd : ns.length ≤ 66000 ∧ ∀ n ∈ ns, 0 ≤ n ∧ n ≤ 255 := by
    have h1 : ((decide (0 ≤ ns.length) && decide (ns.length ≤ 66000) && ns.all (Codec.inInt 0 255)) && true) = true := hwi
    simp only [Bool.and_eq_true, decide_eq_true_eq, List.all_eq_true] at h1
    refine ⟨h1.1.1.2, fun n hn => ?_⟩
    have h2 := h1.1.2 n hn
    simp only [Codec.inInt, Bool.and_eq_true, decide_eq_true_eq] at h2
    exact h2
  have vv : ∃ (x : Addr) (its : List Value), vals = [Value.ref x] ∧ s₁.heap.get? x = some { cls := .type "list", data := .seq its.toArray } ∧ IntsAre its ns := by
    cases hwl with
    | cons w1 w2 =>
      cases w2
      cases w1 with
      | list h1 h2 => exact ⟨_, _, rfl, h1, L2.ints_well h2⟩
  obtain ⟨x, its, rfl, hx, hi⟩ := vv
  have hTT : TabsAt (_ ++ [(226, 222)]) s₁.heap := fun q hq => (List.mem_append.mp hq).elim (hT9 q) fun hq => by
    rw [List.mem_singleton.mp hq]
    exact ⟨codeHd_of_K (c := 226) (P := 222) KX (by kernel_rfl), Y.2 222 (.head _)⟩
  have hnt : noTabs (L2.KOf KX) = true := by kernel_rfl
  have FF : ∃ a : RC.Ad, RC.Txt (L2.KOf KX) mg a ∧ a.fCOne = fa ∧ a.dByB.code = .ref 226 := by
    dsimp only [L2.KOf]
    refine' RC.all_mk KX G.T.g hmg ?p_aCF ?p_aCL ?p_aCR ?p_aCP ?p_aCC ?p_lCF ?p_lNF ?p_skF ?p_i1F ?p_lFI ?p_cFI ?p_kFI ?p_aLI ?p_iLI ?p_lLI ?p_cLI ?p_kLI ?p_aAny ?p_iAny ?p_lAny ?p_cAny ?p_kAny ?p_aNext ?p_iNext ?p_lNext ?p_cNext ?p_kNext ?p_aChoice ?p_iChoice ?p_lChoice ?p_cChoice ?p_kChoice ?p_aFixed ?p_iFixed ?p_lFixed ?p_cFixed ?p_kFixed ?p_aTName ?p_iTName ?p_lTName ?p_cTName ?p_kTName ?p_aNum ?p_iNum ?p_lNum ?p_cNum ?p_kNum ?p_aRule ?p_iRule ?p_lRule ?p_cRule ?p_kRule ?p_aFin ?p_iFin ?p_lFin ?p_cFin ?p_kFin ?p_aBytes ?p_lBytes ?p_cBytes ?p_kBytes ?p_aLetter ?p_lLetter ?p_cLetter ?p_kLetter ?p_aDigit ?p_lDigit ?p_cDigit ?p_kDigit ?p_aIsName ?p_lIsName ?p_cIsName ?p_kIsName ?p_aNumOf ?p_lNumOf ?p_cNumOf ?p_kNumOf ?p_aLEnd ?p_lLEnd ?p_cLEnd ?p_kLEnd ?p_aBad ?p_lBad ?p_cBad ?p_kBad ?p_aCheck ?p_lCheck ?p_cCheck ?p_kCheck ?p_aSplit ?p_lSplit ?p_cSplit ?p_kSplit ?p_aLFrom ?p_lLFrom ?p_cLFrom ?p_kLFrom ?p_aRI ?p_iRI ?p_lRI ?p_cRI ?p_kRI ?p_aInt ?p_iInt ?p_lInt ?p_cInt ?p_kInt ?p_aByB ?p_iByB ?p_lByB ?p_cByB ?p_kByB ?p_aPI ?p_iPI ?p_lPI ?p_cPI ?p_kPI ?p_aCI ?p_iCI ?p_lCI ?p_cCI ?p_kCI ?p_aDay ?p_lDay ?p_cDay ?p_kDay ?p_aCouple ?p_lCouple ?p_cCouple ?p_kCouple ?p_aRace ?p_lRace ?p_cRace ?p_kRace ?p_aPName ?p_lPName ?p_cPName ?p_kPName ?p_aPool ?p_lPool ?p_cPool ?p_kPool ?p_aAddR ?p_lAddR ?p_cAddR ?p_kAddR ?p_aAddP ?p_lAddP ?p_cAddP ?p_kAddP ?p_aCard ?p_lCard ?p_cCard ?p_kCard ?p_aRText ?p_lRText ?p_cRText ?p_kRText ?p_aPText ?p_lPText ?p_cPText ?p_kPText ?p_aCText ?p_lCText ?p_cCText ?p_kCText ?p_aAnswer ?p_lAnswer ?p_cAnswer ?p_kAnswer ?p_aCOne ?p_lCOne ?p_cCOne ?p_kCOne ?p_i2F ?p_i3F ?p_i4F ?p_i5F ?p_i6F ?p_fnF ?p_kpF ?p_pgCL ?p_hdCL ?p_poCL ?p_saCL ?p_mkCL ?p_kcCL ?p_nCL_words ?p_nCL_end ?p_nCL_taken ?p_nCL_place ?p_pgCR ?p_hdCR ?p_poCR ?p_saCR ?p_mkCR ?p_kcCR ?p_nCR_runners ?p_nCR_couples ?p_pgCP ?p_hdCP ?p_poCP ?p_saCP ?p_mkCP ?p_kcCP ?p_nCP_name ?p_nCP_kind ?p_nCP_k ?p_nCP_race ?p_nCP_take ?p_nCP_brk ?p_nCP_least ?p_nCP_unit ?p_nCP_none ?p_pgCC ?p_hdCC ?p_poCC ?p_saCC ?p_mkCC ?p_kcCC ?p_nCC_day_name ?p_nCC_races ?p_nCC_pools ?p_vNOTENDED ?p_vBADBYTE ?p_vBADWORD ?p_vBADVALUE ?p_vNAMEISTHERE ?p_vTOOMANY ?p_vFEWINTERESTS ?p_vNORACE ?p_vNL ?p_vBLANK ?p_vLASTSIGN ?p_vDIGIT0 ?p_vDIGIT9 ?p_vLETTERA ?p_vLETTERZ ?p_vMOSTNAME ?p_vMOSTDIGITS ?p_vMOSTRACES ?p_vMOSTPOOLS ?p_vMOSTCOUPLES ?p_vRACELINE ?p_vPLACE ?p_vLEGS ?p_vMOSTBYTES ?p_vDONE ?p_vTOOLONG ?p_vFAULTY ?p_wHEADINGS ?p_lHEADINGS ?p_wKINDS ?p_lKINDS ?p_wLEASTK ?p_lLEASTK ?p_wMOSTK ?p_lMOSTK ?p_wNONES ?p_lNONES ?p_wNONESOFPLACE ?p_lNONESOFPLACE ?p_z_len ?p_z_ord ?p_z_range ?p_z_enumerate ?p_z_sorted ?p_z_str
    (case p_aCF => k_is)
    (case p_aCL => k_is)
    (case p_aCR => k_is)
    (case p_aCP => k_is)
    (case p_aCC => k_is)
    (case p_lCF => k_is)
    (case p_lNF => k_is)
    (case p_skF => first | rfl | (simp [L2.strKeysB]; done) | (with_unfolding_all rfl))
    (case p_i1F => k_is)
    (case p_lFI => k_is)
    (case p_cFI => k_is)
    (case p_kFI => k_is)
    (case p_aLI => k_is)
    (case p_iLI => k_is)
    (case p_lLI => k_is)
    (case p_cLI => k_is)
    (case p_kLI => k_is)
    (case p_aAny => k_is)
    (case p_iAny => k_is)
    (case p_lAny => k_is)
    (case p_cAny => k_is)
    (case p_kAny => k_is)
    (case p_aNext => k_is)
    (case p_iNext => k_is)
    (case p_lNext => k_is)
    (case p_cNext => k_is)
    (case p_kNext => k_is)
    (case p_aChoice => k_is)
    (case p_iChoice => k_is)
    (case p_lChoice => k_is)
    (case p_cChoice => k_is)
    (case p_kChoice => k_is)
    (case p_aFixed => k_is)
    (case p_iFixed => k_is)
    (case p_lFixed => k_is)
    (case p_cFixed => k_is)
    (case p_kFixed => k_is)
    (case p_aTName => k_is)
    (case p_iTName => k_is)
    (case p_lTName => k_is)
    (case p_cTName => k_is)
    (case p_kTName => k_is)
    (case p_aNum => k_is)
    (case p_iNum => k_is)
    (case p_lNum => k_is)
    (case p_cNum => k_is)
    (case p_kNum => k_is)
    (case p_aRule => k_is)
    (case p_iRule => k_is)
    (case p_lRule => k_is)
    (case p_cRule => k_is)
    (case p_kRule => k_is)
    (case p_aFin => k_is)
    (case p_iFin => k_is)
    (case p_lFin => k_is)
    (case p_cFin => k_is)
    (case p_kFin => k_is)
    (case p_aBytes => k_is)
    (case p_lBytes => k_is)
    (case p_cBytes => k_is)
    (case p_kBytes => k_is)
    (case p_aLetter => k_is)
    (case p_lLetter => k_is)
    (case p_cLetter => k_is)
    (case p_kLetter => k_is)
    (case p_aDigit => k_is)
    (case p_lDigit => k_is)
    (case p_cDigit => k_is)
    (case p_kDigit => k_is)
    (case p_aIsName => k_is)
    (case p_lIsName => k_is)
    (case p_cIsName => k_is)
    (case p_kIsName => k_is)
    (case p_aNumOf => k_is)
    (case p_lNumOf => k_is)
    (case p_cNumOf => k_is)
    (case p_kNumOf => k_is)
    (case p_aLEnd => k_is)
    (case p_lLEnd => k_is)
    (case p_cLEnd => k_is)
    (case p_kLEnd => k_is)
    (case p_aBad => k_is)
    (case p_lBad => k_is)
    (case p_cBad => k_is)
    (case p_kBad => k_is)
    (case p_aCheck => k_is)
    (case p_lCheck => k_is)
    (case p_cCheck => k_is)
    (case p_kCheck => k_is)
    (case p_aSplit => k_is)
    (case p_lSplit => k_is)
    (case p_cSplit => k_is)
    (case p_kSplit => k_is)
    (case p_aLFrom => k_is)
    (case p_lLFrom => k_is)
    (case p_cLFrom => k_is)
    (case p_kLFrom => k_is)
    (case p_aRI => k_is)
    (case p_iRI => k_is)
    (case p_lRI => k_is)
    (case p_cRI => k_is)
    (case p_kRI => k_is)
    (case p_aInt => k_is)
    (case p_iInt => k_is)
    (case p_lInt => k_is)
    (case p_cInt => k_is)
    (case p_kInt => k_is)
    (case p_aByB => k_is)
    (case p_iByB => k_is)
    (case p_lByB => k_is)
    (case p_cByB => k_is)
    (case p_kByB => k_is)
    (case p_aPI => k_is)
    (case p_iPI => k_is)
    (case p_lPI => k_is)
    (case p_cPI => k_is)
    (case p_kPI => k_is)
    (case p_aCI => k_is)
    (case p_iCI => k_is)
    (case p_lCI => k_is)
    (case p_cCI => k_is)
    (case p_kCI => k_is)
    (case p_aDay => k_is)
    (case p_lDay => k_is)
    (case p_cDay => k_is)
    (case p_kDay => k_is)
    (case p_aCouple => k_is)
    (case p_lCouple => k_is)
    (case p_cCouple => k_is)
    (case p_kCouple => k_is)
    (case p_aRace => k_is)
    (case p_lRace => k_is)
    (case p_cRace => k_is)
    (case p_kRace => k_is)
    (case p_aPName => k_is)
    (case p_lPName => k_is)
    (case p_cPName => k_is)
    (case p_kPName => k_is)
    (case p_aPool => k_is)
    (case p_lPool => k_is)
    (case p_cPool => k_is)
    (case p_kPool => k_is)
    (case p_aAddR => k_is)
    (case p_lAddR => k_is)
    (case p_cAddR => k_is)
    (case p_kAddR => k_is)
    (case p_aAddP => k_is)
    (case p_lAddP => k_is)
    (case p_cAddP => k_is)
    (case p_kAddP => k_is)
    (case p_aCard => k_is)
    (case p_lCard => k_is)
    (case p_cCard => k_is)
    (case p_kCard => k_is)
    (case p_aRText => k_is)
    (case p_lRText => k_is)
    (case p_cRText => k_is)
    (case p_kRText => k_is)
    (case p_aPText => k_is)
    (case p_lPText => k_is)
    (case p_cPText => k_is)
    (case p_kPText => k_is)
    (case p_aCText => k_is)
    (case p_lCText => k_is)
    (case p_cCText => k_is)
    (case p_kCText => k_is)
    (case p_aAnswer => k_is)
    (case p_lAnswer => k_is)
    (case p_cAnswer => k_is)
    (case p_kAnswer => k_is)
    (case p_aCOne => k_is)
    (case p_lCOne => k_is)
    (case p_cCOne => k_is)
    (case p_kCOne => k_is)
    (case p_i2F => k_is)
    (case p_i3F => k_is)
    (case p_i4F => k_is)
    (case p_i5F => k_is)
    (case p_i6F => k_is)
    (case p_fnF => k_is)
    (case p_kpF => k_is)
    (case p_pgCL => k_is)
    (case p_hdCL => k_is)
    (case p_poCL => k_is)
    (case p_saCL => k_is)
    (case p_mkCL => k_is)
    (case p_kcCL => k_is)
    (case p_nCL_words => k_is)
    (case p_nCL_end => k_is)
    (case p_nCL_taken => k_is)
    (case p_nCL_place => k_is)
    (case p_pgCR => k_is)
    (case p_hdCR => k_is)
    (case p_poCR => k_is)
    (case p_saCR => k_is)
    (case p_mkCR => k_is)
    (case p_kcCR => k_is)
    (case p_nCR_runners => k_is)
    (case p_nCR_couples => k_is)
    (case p_pgCP => k_is)
    (case p_hdCP => k_is)
    (case p_poCP => k_is)
    (case p_saCP => k_is)
    (case p_mkCP => k_is)
    (case p_kcCP => k_is)
    (case p_nCP_name => k_is)
    (case p_nCP_kind => k_is)
    (case p_nCP_k => k_is)
    (case p_nCP_race => k_is)
    (case p_nCP_take => k_is)
    (case p_nCP_brk => k_is)
    (case p_nCP_least => k_is)
    (case p_nCP_unit => k_is)
    (case p_nCP_none => k_is)
    (case p_pgCC => k_is)
    (case p_hdCC => k_is)
    (case p_poCC => k_is)
    (case p_saCC => k_is)
    (case p_mkCC => k_is)
    (case p_kcCC => k_is)
    (case p_nCC_day_name => k_is)
    (case p_nCC_races => k_is)
    (case p_nCC_pools => k_is)
    (case p_vNOTENDED => k_is)
    (case p_vBADBYTE => k_is)
    (case p_vBADWORD => k_is)
    (case p_vBADVALUE => k_is)
    (case p_vNAMEISTHERE => k_is)
    (case p_vTOOMANY => k_is)
    (case p_vFEWINTERESTS => k_is)
    (case p_vNORACE => k_is)
    (case p_vNL => k_is)
    (case p_vBLANK => k_is)
    (case p_vLASTSIGN => k_is)
    (case p_vDIGIT0 => k_is)
    (case p_vDIGIT9 => k_is)
    (case p_vLETTERA => k_is)
    (case p_vLETTERZ => k_is)
    (case p_vMOSTNAME => k_is)
    (case p_vMOSTDIGITS => k_is)
    (case p_vMOSTRACES => k_is)
    (case p_vMOSTPOOLS => k_is)
    (case p_vMOSTCOUPLES => k_is)
    (case p_vRACELINE => k_is)
    (case p_vPLACE => k_is)
    (case p_vLEGS => k_is)
    (case p_vMOSTBYTES => k_is)
    (case p_vDONE => k_is)
    (case p_vTOOLONG => k_is)
    (case p_vFAULTY => k_is)
    (case p_wHEADINGS => k_is)
    (case p_lHEADINGS => k_is)
    (case p_wKINDS => k_is)
    (case p_lKINDS => k_is)
    (case p_wLEASTK => k_is)
    (case p_lLEASTK => k_is)
    (case p_wMOSTK => k_is)
    (case p_lMOSTK => k_is)
    (case p_wNONES => k_is)
    (case p_lNONES => k_is)
    (case p_wNONESOFPLACE => k_is)
    (case p_lNONESOFPLACE => k_is)
    (case p_z_len => k_is)
    (case p_z_ord => k_is)
    (case p_z_range => k_is)
    (case p_z_enumerate => k_is)
    (case p_z_sorted => k_is)
    (case p_z_str => k_is)
  obtain ⟨a, T, rfl, ecd2⟩ := FF
  have ecd := congrArg FuncData.code (L2.code_of T.FCOne KX ho hd)
  have e8 : CM.I8 (CardNeutral.text ns) = ns := CM.I8_text bd.2
  refine enter_call (codeAny_mono (L2.spec_callT (R := []) (cl := classAt s₀.heap) (ls := [(x, its, ns)]) (vs := [.ref x]) (ans := RC.ansO (CardNeutral.text ns)) KX G.T.g G.T.b G.T.builtins G.T.nolimit hg (fun l hl => by rw [List.mem_singleton.mp hl]; exact ⟨hx, hi, by show ns.length ≤ sizeLine; rw [sizeLine_eq]; omega⟩)
    hTT (fun q hq => L2.noTab_of KX hnt (hTT q hq).2) G.T.bmain ⟨rfl, by decide, by decide⟩ (.cons rfl .nil)
    (fun base _ _ hc => RC.ok_main (P := _) (w := w) (base := base) T ecd (hc _ (.head _)).1 (hc _ (.head _)).2 ecd2 (hc _ (.tail _ (.head _))).1 (hc _ (.tail _ (.head _))).2 (by decide)) (T.bCOne s₁ [.ref x] KX rfl) (fun H hl ht => ⟨x, CardNeutral.text ns, rfl, by rw [e8]; exact hl _ (List.mem_singleton.mpr rfl), ht _ (.head _), ht _ (.tail _ (.head _)), fun H' p hp => ⟨p, rfl, L2.SqL.of hp⟩⟩) (fun H e s' z => z)) fun rr s' hq => ?_)
  obtain ⟨p, as', rfl, rd, old, os, bare⟩ := hq
  refine L2.good_list rd ?_ old os bare
  exact (OpenSpec.post_iff said (a := ((ns, u) : List Int × Unit)) hwi _ []).mpr (congrArg (fun l : List Int => WData.list (l.map WData.int)) RC.due_main)
#print axioms PySem.Challenge.cw_racecards_s02_one_text_holds
