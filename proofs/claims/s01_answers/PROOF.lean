import PyProof.Rows.All
import Wide.All
import OpenK.AllK
import Wide.FinOn
import PyProof.EqAt
import PyProof.EqKinds
import PyProof.TupleCall
import KE.BitLaws
import Open.SpecLaws
import KE.OsHead
import KE.OsGo
import Kv204Neutral
import PyKv204
import PyProof.AutoSeq1
import PySem.Challenge.RW_cakeshares_s01_answers
-- CHANGE: your row's module here, as the last of these rows
set_option Elab.async false
set_option linter.all false
set_option maxRecDepth 100000
/-! THE HAND LAYER, for ints, bools, texts, own classes, lists, tuples, dicts, comprehensions, walks over dicts, enumerate, zip, reversed, texts, calls, loops. Paste it whole ahead of your own text; what your proof does not reach may be deleted. -/
namespace L2
open PySem PySem.Spec PyProof.Rows

/-- a key: an int or a str -/
abbrev Key := Sum Int Str
def keyIs : Key → Value → Bool
  | .inl k, v => Value.isInt k v
  | .inr x, v => Value.isStrOf x v
def keyH (w : World) : Key → Int
  | .inl k => hashInt k
  | .inr x => hashStr w x
theorem keyIs_shape : ∀ {k : Key} {v : Value}, keyIs k v = true → (∃ i t, k = Sum.inl i ∧ v = Value.int i t) ∨ (∃ x t, k = Sum.inr x ∧ v = Value.str x t)
  | .inl i, v, h => by
    obtain ⟨t, e⟩ := Value.isInt_shape (k := i) (v := v) h
    exact .inl ⟨i, t, rfl, e⟩
  | .inr x, v, h => by
    obtain ⟨t, e⟩ := Value.isStrOf_shape (x := x) (v := v) h
    exact .inr ⟨x, t, rfl, e⟩
theorem key_ll (a b : Int) : decide ((Sum.inl a : Key) = Sum.inl b) = (a == b) := by
  by_cases e : a = b
  · subst e; simp
  · have h : ¬ (Sum.inl a : Key) = Sum.inl b := fun q => e (Sum.inl.inj q)
    rw [decide_eq_false h]
    exact (beq_eq_false_iff_ne.mpr e).symm
theorem key_rr (a b : Str) : decide ((Sum.inr a : Key) = Sum.inr b) = decide (a = b) := by
  by_cases e : a = b
  · subst e; simp
  · have h : ¬ (Sum.inr a : Key) = Sum.inr b := fun q => e (Sum.inr.inj q)
    rw [decide_eq_false h, decide_eq_false e]
theorem key_lr (a : Int) (b : Str) : decide ((Sum.inl a : Key) = Sum.inr b) = false := decide_eq_false (fun q => nomatch q)
theorem key_rl (a : Str) (b : Int) : decide ((Sum.inr a : Key) = Sum.inl b) = false := decide_eq_false (fun q => nomatch q)

def mixKind (prog : Program) (w : World) : PySem.KeyKind prog w Key where
  is := keyIs
  hash := keyH w
  inj := fun v a b ha hb => by
    rcases keyIs_shape ha with ⟨i, t, rfl, rfl⟩ | ⟨x, t, rfl, rfl⟩
    · rcases keyIs_shape hb with ⟨j, u, rfl, e⟩ | ⟨y, u, rfl, e⟩
      · injection e with e1 _; rw [e1]
      · exact nomatch e
    · rcases keyIs_shape hb with ⟨j, u, rfl, e⟩ | ⟨y, u, rfl, e⟩
      · exact nomatch e
      · injection e with e1 _; rw [e1]
  byValue := fun k v h => by
    rcases keyIs_shape h with ⟨i, t, rfl, rfl⟩ | ⟨x, t, rfl, rfl⟩ <;> rfl
  pyHash := fun hv h => by
    rcases keyIs_shape hv with ⟨i, t, rfl, rfl⟩ | ⟨x, t, rfl, rfl⟩
    · exact wpAny_pyHash_int h
    · exact wpAny_pyHash_str h
  eqBool := fun hu hv h => by
    rcases keyIs_shape hu with ⟨i, t, rfl, rfl⟩ | ⟨x, t, rfl, rfl⟩
    · rcases keyIs_shape hv with ⟨j, u, rfl, rfl⟩ | ⟨y, u, rfl, rfl⟩
      · rw [key_ll] at h; exact wpAny_eqBool_int h
      · rw [key_lr] at h; exact SeqAt.EqAt.int_str i t y u _ _ _ _ h
    · rcases keyIs_shape hv with ⟨j, u, rfl, rfl⟩ | ⟨y, u, rfl, rfl⟩
      · rw [key_rl] at h; exact SeqAt.EqAt.str_int x t j u _ _ _ _ h
      · rw [key_rr] at h; exact wpAny_eqBool_str h
  «strs» := fun k x t v h => by
    rcases keyIs_shape h with ⟨i, u, rfl, e⟩ | ⟨y, u, rfl, e⟩
    · exact nomatch e
    · injection e with e1 _
      subst e1
      cases v <;> rfl

end L2

namespace L2
open PySem PySem.Spec PyProof.Rows

/-- a value, without the heap -/
inductive V where
  | non | bl (b : Bool) | int (i : Int) | str (x : Str) | byt (b : Array UInt8) | flt (b : UInt64) | ref (a : Addr) | ty (n : String)
  deriving DecidableEq

def RelV : V → Value → Prop
  | .non, u => u = Value.none
  | .bl b, u => u = Value.bool b
  | .int i, u => ∃ t, u = Value.int i t
  | .str x, u => ∃ t, u = Value.str x t
  | .byt b, u => ∃ t, u = Value.bytes b t
  | .flt b, u => ∃ t, u = Value.float b t
  | .ref a, u => u = Value.ref a
  | .ty n, u => u = Value.type n

abbrev Vals : List V → List Value → Prop := Paired RelV
theorem Vals.length {xs : List V} {us : List Value} (r : Vals xs us) : xs.length = us.length := Paired.length r
theorem Vals.get : ∀ {xs : List V} {us : List Value} {i : Nat} {x : V}, Vals xs us → xs[i]? = some x → ∃ u, us[i]? = some u ∧ RelV x u
  | _, _, _, _, .nil, e => by simp at e
  | _, _, 0, _, .cons r _, e => by simp at e; subst e; exact ⟨_, rfl, r⟩
  | _, _, i + 1, x, .cons _ t, e => by
    obtain ⟨u, h1, h2⟩ := Vals.get (i := i) (x := x) t (by simpa using e)
    exact ⟨u, by simpa using h1, h2⟩
theorem Vals.set {x : V} {u : Value} (r : RelV x u) : ∀ {xs : List V} {us : List Value} (i : Nat), Vals xs us → Vals (xs.set i x) (us.set i u)
  | _, _, _, .nil => .nil
  | _, _, 0, .cons _ t => .cons r t
  | _, _, i + 1, .cons q t => .cons q (Vals.set r i t)
theorem Vals.append : ∀ {xs ys : List V} {us ws : List Value}, Vals xs us → Vals ys ws → Vals (xs ++ ys) (us ++ ws)
  | _, _, _, _, .nil, s => s
  | _, _, _, _, .cons r t, s => .cons r (Vals.append t s)
theorem Vals.take : ∀ {xs : List V} {us : List Value} (n : Nat), Vals xs us → Vals (xs.take n) (us.take n)
  | _, _, 0, _ => .nil
  | _, _, _ + 1, .nil => .nil
  | _, _, n + 1, .cons r t => .cons r (Vals.take n t)
theorem Vals.drop : ∀ {xs : List V} {us : List Value} (n : Nat), Vals xs us → Vals (xs.drop n) (us.drop n)
  | _, _, 0, r => r
  | _, _, _ + 1, .nil => .nil
  | _, _, n + 1, .cons _ t => Vals.drop n t
def RelO : Option V → Option Value → Prop
  | some v, some u => RelV v u
  | none, none => True
  | _, _ => False
def KV {κ : Type} : List (κ × V) → List (κ × Value) → Prop := Paired fun (p : κ × V) (q : κ × Value) => p.1 = q.1 ∧ RelV p.2 q.2

/-- a key of a dict (00_mix): an int or a text -/
def kV : Key → V
  | .inl i => .int i
  | .inr x => .str x

/-- what stands at a tracked address -/
inductive HO where
  /-- a list -/
  | lst (xs : List V)
  /-- a tuple (never changes) -/
  | tup (xs : List V)
  /-- a dict whose keys are ints and texts; one whose keys are tuples of ints and texts (the empty one is both) -/
  | dK (kvs : List (Key × V)) | dT (kvs : List (List Key × V))
  /-- a set of ints: its members, its size -/
  | set (S : Int → Bool) (n : Nat)
  /-- an instance of the class at C, its dict at dx, its attributes -/
  | ins (C dx : Addr) (fs : List (Str × V))
  /-- the dict of the instance at x -/
  | own (x : Addr)
  /-- the dict of an exception -/
  | xd (fs : List (Str × V))
  /-- a bound method, f of x -/
  | met (f x : Addr)
  /-- a range object lo, lo + 1, .. below hi -/
  | rng (lo hi : Int)
  /-- a thing that is known to the object (the script; a dict while a loop walks it): read, never written while it is so -/
  | frz (o : Obj) (u : HO)
  /-- a code object's table -/
  | tbl (ps : Array Value)
  /-- any other thing, by what is true of its one object (a def of one's own: SetO a S n := HO.ext fun h => ..) -/
  | ext (φ : Heap → Prop)

abbrev Hp := Addr → Option HO
def upd (H : Hp) (a : Addr) (o : HO) : Hp := fun b => if b = a then some o else H b
theorem upd_same {H : Hp} {a : Addr} {o : HO} : upd H a o a = some o := by unfold upd; rw [if_pos rfl]
theorem upd_ne {H : Hp} {a b : Addr} {o : HO} (h : b ≠ a) : upd H a o b = H b := by unfold upd; rw [if_neg h]
/-- two objects of different content stand apart -/
theorem ne_of {H : Hp} {a b : Addr} {o u : HO} (h : H a = some o) (h' : H b = some u) (d : o ≠ u) : a ≠ b := by
  intro e; subst e; rw [h] at h'; exact d (Option.some.inj h')
theorem ne_of_none {H : Hp} {a b : Addr} {o : HO} (h : H a = some o) (h' : H b = none) : a ≠ b := by
  intro e; subst e; rw [h] at h'; cases h'

section
variable (P : Program) (w : World)
def ObjOk (H : Hp) (h : Heap) (a : Addr) : HO → Prop
  | .lst xs => xs.length ≤ sizeLine ∧ ∃ (its : List Value) (n : Nat), Vals xs its ∧ h.get? a = some { cls := .type "list", data := .seq its.toArray n }
  | .tup xs => xs.length ≤ sizeLine ∧ ∃ its : List Value, Vals xs its ∧ IsTup h a its.toArray
  | .dK kvs => kvs.length ≤ sizeLine ∧ (a == sysModules) = false ∧ ∃ vs, KV kvs vs ∧ h.DictOf (mixKind P w) a vs
  | .dT kvs => kvs.length ≤ sizeLine ∧ (a == sysModules) = false ∧ ∃ xs : List (List Key × Addr × Value),
      Paired (fun (p : List Key × V) (q : List Key × Addr × Value) => p.1 = q.1 ∧ H q.2.1 = some (.tup (p.1.map kV)) ∧ RelV p.2 q.2.2) kvs xs ∧
      ∃ o es ep, h.get? a = some o ∧ o.ExactDict ∧ o.data = .dict es ep ∧ es.toList = xs.map (entryOfKey (tupleKind (mixKind P w))) ∧ (xs.map (·.1)).Nodup
  | .set S n => h.SetOf (intKind P w) a S n
  | .ins C dx fs => H dx = some (.own a) ∧ fs.length ≤ 1000 ∧ dx ≠ a ∧ h.get? a = some (PySem.W.instObj C dx) ∧
      ∃ mA, h.Ns1 dx mA ∧ (∀ f, RelO (fs.lookup f) (mA f)) ∧ PySem.Within mA (fs.map (·.1))
  | .own _ => ∃ o, h.get? a = some o
  | .xd fs => ∃ mA, h.Ns1 a mA ∧ ∀ f, RelO (fs.lookup f) (mA f)
  | .rng lo hi => ∃ t u v, h.get? a = some { cls := .type "range", data := .fields #[.int lo t, .int hi u, .int 1 v] }
  | .frz o u => h.get? a = some o ∧ ObjOk H h a u
  | .tbl ps => h.get? a = some { cls := .none, data := .fields ps }
  | .met f x => h.get? a = some (PySem.W.methodObj (.ref f) (.ref x))
  | .ext φ => φ h ∧ (∃ o, h.get? a = some o) ∧ ∀ h1 h2 : Heap, φ h1 → (∀ o, h1.get? a = some o → h2.get? a = some o) → φ h2
/-- the abstract heap is held -/
def HOk (H : Hp) (h : Heap) : Prop := ∀ a o, H a = some o → ObjOk P w H h a o
end

section
variable {P : Program} {w : World} {H H' : Hp} {h h' : Heap} {a : Addr} {o : HO}
theorem ObjOk.lt (x : ObjOk P w H h a o) : a < h.objs.size := by
  cases o with
  | lst xs => obtain ⟨_, _, _, _, e⟩ := x; exact Heap.lt_size e
  | tup xs => obtain ⟨_, _, _, p⟩ := x; exact p.lt
  | dK kvs => obtain ⟨_, _, _, _, o, _, _, e, _⟩ := x; exact Heap.lt_size e
  | dT kvs => obtain ⟨_, _, _, _, o, _, _, e, _⟩ := x; exact Heap.lt_size e
  | set S n => obtain ⟨o, _, _, _, e, _⟩ := x; exact Heap.lt_size e
  | ins C dx fs => obtain ⟨_, _, _, e, _⟩ := x; exact Heap.lt_size e
  | own y => obtain ⟨_, e⟩ := x; exact Heap.lt_size e
  | xd fs => obtain ⟨_, ⟨_, _, _, e, _⟩, _⟩ := x; exact Heap.lt_size e
  | rng lo hi => obtain ⟨_, _, _, e⟩ := x; exact Heap.lt_size e
  | frz ob u => obtain ⟨e, _⟩ := x; exact Heap.lt_size e
  | tbl ps => exact Heap.lt_size (show h.get? a = some _ from x)
  | met f y => exact Heap.lt_size (show h.get? a = some _ from x)
  | ext φ => obtain ⟨_, ⟨_, e⟩, _⟩ := x; exact Heap.lt_size e
theorem Paired.mapP {α β : Type} {F G : α → β → Prop} : ∀ {l₁ : List α} {l₂ : List β}, Paired F l₁ l₂ → (∀ a b, F a b → G a b) → Paired G l₁ l₂
  | _, _, .nil, _ => .nil
  | _, _, .cons r t, f => .cons (f _ _ r) (Paired.mapP t f)
/-- what an object's description leans on: its own object, its own dict, the tuples -/
theorem ObjOk.stay (x : ObjOk P w H h a o) (k : ∀ b u, (b = a ∨ H b = some (.own a)) → h.get? b = some u → h'.get? b = some u)
    (ho : ∀ b, H b = some (.own a) → H' b = some (.own a)) (ht : ∀ b xs, H b = some (.tup xs) → H' b = some (.tup xs)) : ObjOk P w H' h' a o := by
  induction o with
  | lst xs => obtain ⟨z, its, n, r, e⟩ := x; exact ⟨z, its, n, r, k _ _ (.inl rfl) e⟩
  | tup xs => obtain ⟨z, its, r, ob, e, c⟩ := x; exact ⟨z, its, r, ob, k _ _ (.inl rfl) e, c⟩
  | dK kvs => obtain ⟨z, y, vs, r, ob, es, ep, e, c⟩ := x; exact ⟨z, y, vs, r, ob, es, ep, k _ _ (.inl rfl) e, c⟩
  | dT kvs =>
    obtain ⟨z, y, xs, r, ob, es, ep, e, c⟩ := x
    exact ⟨z, y, xs, Paired.mapP r fun p q z => ⟨z.1, ht _ _ z.2.1, z.2.2⟩, ob, es, ep, k _ _ (.inl rfl) e, c⟩
  | set S n => obtain ⟨ob, es, ep, t, e, c⟩ := x; exact ⟨ob, es, ep, t, k _ _ (.inl rfl) e, c⟩
  | ins C dx fs =>
    obtain ⟨d, z, ne, e, mA, ⟨od, es, ep, e2, c⟩, r⟩ := x
    exact ⟨ho _ d, z, ne, k _ _ (.inl rfl) e, mA, ⟨od, es, ep, k _ _ (.inr d) e2, c⟩, r⟩
  | own y => obtain ⟨ob, e⟩ := x; exact ⟨ob, k _ _ (.inl rfl) e⟩
  | xd fs => obtain ⟨mA, ⟨od, es, ep, e, c⟩, r⟩ := x; exact ⟨mA, ⟨od, es, ep, k _ _ (.inl rfl) e, c⟩, r⟩
  | rng lo hi => obtain ⟨t, u, v, e⟩ := x; exact ⟨t, u, v, k _ _ (.inl rfl) e⟩
  | frz ob u ih => obtain ⟨e, q⟩ := x; exact ⟨k _ _ (.inl rfl) e, ih q⟩
  | tbl ps =>
    have e : h.get? a = some { cls := .none, data := .fields ps } := x
    show h'.get? a = some { cls := .none, data := .fields ps }
    exact k a _ (.inl rfl) e
  | met f y =>
    have e : h.get? a = some (PySem.W.methodObj (.ref f) (.ref y)) := x
    show h'.get? a = some (PySem.W.methodObj (.ref f) (.ref y))
    exact k a _ (.inl rfl) e
  | ext φ => obtain ⟨p, ⟨o, e⟩, st⟩ := x; exact ⟨st _ _ p fun o q => k _ _ (.inl rfl) q, ⟨o, k _ _ (.inl rfl) e⟩, st⟩
theorem HOk.lt (x : HOk P w H h) (e : H a = some o) : a < h.objs.size := (x a o e).lt
theorem HOk.fresh (x : HOk P w H h) (e : h.objs.size ≤ a) : H a = none := by
  cases q : H a with
  | none => rfl
  | some u => exact absurd (Nat.lt_of_lt_of_le (x.lt q) e) (Nat.lt_irrefl _)
/-- every object of the heap is kept -/
theorem HOk.kept (x : HOk P w H h) (k : ∀ b u, h.get? b = some u → h'.get? b = some u) : HOk P w H h' := fun a o e =>
  (x a o e).stay (fun b u _ q => k b u q) (fun _ q => q) fun _ _ q => q
/-- a new object is laid and tracked -/
theorem HOk.laid (x : HOk P w H h) (k : ∀ b u, h.get? b = some u → h'.get? b = some u) (hp : h.objs.size ≤ a) (new : ObjOk P w (upd H a o) h' a o) : HOk P w (upd H a o) h' := fun b u e => by
  have hn := x.fresh hp
  by_cases hb : b = a
  · subst hb; rw [upd_same] at e; cases e; exact new
  · rw [upd_ne hb] at e
    exact (x b u e).stay (fun c v _ q => k c v q) (fun c q => by rw [upd_ne (ne_of_none q hn)]; exact q) fun c xs q => by rw [upd_ne (ne_of_none q hn)]; exact q
end

/-- what may be read as u: it is u, or a known u -/
def Rd (H : Hp) (a : Addr) (u : HO) : Prop := H a = some u ∨ ∃ o, H a = some (.frz o u)
theorem Rd.ok {P : Program} {w : World} {H : Hp} {h : Heap} {a : Addr} {u : HO} (r : Rd H a u) (x : HOk P w H h) : ObjOk P w H h a u := by
  rcases r with r | ⟨o, r⟩
  · exact x a u r
  · obtain ⟨_, q⟩ := x a _ r
    exact q
/-- what may be written -/
def Mut : Option HO → Prop
  | some (.lst _) => True
  | some (.dK _) => True
  | some (.dT _) => True
  | some (.set _ _) => True
  | some (.ins _ _ _) => True
  | some (.ext _) => True
  | _ => False
section
variable {P : Program} {w : World} {H : Hp} {h h' : Heap} {x e : Addr} {o' : HO}
/-- the object at e is changed: x itself, or the dict of the instance x -/
theorem HOk.write (ok : HOk P w H h) (mu : Mut (H x)) (he : e = x ∨ H e = some (.own x)) (k : ∀ b u, b ≠ e → h.get? b = some u → h'.get? b = some u) (heo : ∃ u, h'.get? e = some u)
    (new : ObjOk P w (upd H x o') h' x o') : HOk P w (upd H x o') h' := fun b u q => by
  have nown : ∀ c y, H c = some (.own y) → c ≠ x := fun c y r z => by subst z; rw [r] at mu; exact mu
  have ntup : ∀ c xs, H c = some (.tup xs) → c ≠ x := fun c xs r z => by subst z; rw [r] at mu; exact mu
  by_cases hb : b = x
  · subst hb; rw [upd_same] at q; cases q; exact new
  · rw [upd_ne hb] at q
    by_cases hbe : b = e
    · have q' : H b = some (.own x) := by
        rcases he with z | z
        · exact absurd (hbe.trans z) hb
        · rw [hbe]; exact z
      rw [q] at q'; cases q'
      obtain ⟨v, hv⟩ := heo
      exact ⟨v, by rw [hbe]; exact hv⟩
    · refine (ok b u q).stay (fun c v hc r => k c v ?_ r) (fun c r => by rw [upd_ne (nown c b r)]; exact r) fun c xs r => by rw [upd_ne (ntup c xs r)]; exact r
      rcases hc with rfl | hc
      · exact hbe
      · rintro rfl
        rcases he with z | z
        · exact nown c b hc z
        · rw [hc] at z; cases z; exact hb rfl
end

/-! ### kept unless tracked; of the frames at fs (the callers') the slots may change (an exception that passes writes there); of the records at ex (iterators) nothing is said -/
structure Un (fs ex : List Addr) (H H' : Hp) (h h' : Heap) : Prop where
  keep : ∀ b o, h.get? b = some o → H b = none → b ∉ fs → b ∉ ex → h'.get? b = some o
  slot : ∀ b o, h.get? b = some o → H b = none → b ∈ fs → b ∉ ex → ∃ sl, h'.get? b = some { o with slots := sl }
  free : ∀ b o, h.get? b = some o → H b = none → b ∉ ex → H' b = none
  there : ∀ b o, h.get? b = some o → b ∉ ex → ∃ o', h'.get? b = some o'
  tups : ∀ b xs, H b = some (.tup xs) → H' b = some (.tup xs)
  frzs : ∀ b o u, H b = some (.frz o u) → H' b = some (.frz o u)
  tbls : ∀ b ps, H b = some (.tbl ps) → ∃ more, H' b = some (.tbl (ps ++ more))
section
variable {fs fs' ex ex' : List Addr} {H H1 H2 : Hp} {h h1 h2 h' : Heap} {a x e : Addr} {o : HO}
theorem Un.any (u : Un fs ex H H1 h h1) {b : Addr} {ob : Obj} (q : h.get? b = some ob) (n : H b = none) (hx : b ∉ ex) : ∃ sl, h1.get? b = some { ob with slots := sl } := by
  by_cases hb : b ∈ fs
  · exact u.slot b ob q n hb hx
  · exact ⟨ob.slots, u.keep b ob q n hb hx⟩
theorem Un.kept (k : ∀ b u, h.get? b = some u → h'.get? b = some u) : Un fs ex H H h h' :=
  ⟨fun b ob q _ _ _ => k b ob q, fun b ob q _ _ _ => ⟨ob.slots, k b ob q⟩, fun _ _ _ n _ => n, fun b ob q _ => ⟨ob, k b ob q⟩, fun _ _ q => q, fun _ _ _ q => q, fun _ ps q => ⟨#[], by rw [q]; simp⟩⟩
theorem Un.refl : Un fs ex H H h h := Un.kept fun _ _ q => q
theorem Un.laid (k : ∀ b u, h.get? b = some u → h'.get? b = some u) (hp : h.objs.size ≤ a) (hn : H a = none) : Un fs ex H (upd H a o) h h' where
  keep := fun b u q _ _ _ => k b u q
  slot := fun b u q _ _ _ => ⟨u.slots, k b u q⟩
  free := fun b u q n _ => by rw [upd_ne (Nat.ne_of_lt (Nat.lt_of_lt_of_le (Heap.lt_size q) hp))]; exact n
  there := fun b u q _ => ⟨u, k b u q⟩
  tups := fun b xs q => by rw [upd_ne (ne_of_none q hn)]; exact q
  frzs := fun b u xs q => by rw [upd_ne (ne_of_none q hn)]; exact q
  tbls := fun b ps q => ⟨#[], by rw [upd_ne (ne_of_none q hn), q]; simp⟩
theorem Un.write (mu : Mut (H x)) (he : e = x ∨ H e = some (.own x)) (k : ∀ b u, b ≠ e → h.get? b = some u → h'.get? b = some u) (heo : ∃ u, h'.get? e = some u) : Un fs ex H (upd H x o) h h' := by
  have hx : ∀ b, H b = none → b ≠ x := fun b n z => by subst z; rw [n] at mu; exact mu
  have hb : ∀ b, H b = none → b ≠ e := fun b n z => by
    subst z
    rcases he with r | r
    · exact hx b n r
    · rw [n] at r; cases r
  have hm : ∀ b u, H b = some u → ¬ Mut (some u) → b ≠ x := fun b u q nm z => by subst z; rw [q] at mu; exact nm mu
  refine ⟨fun b u q n _ _ => k b u (hb b n) q, fun b u q n _ _ => ⟨u.slots, k b u (hb b n) q⟩, fun b u q n _ => by rw [upd_ne (hx b n)]; exact n, fun b u q _ => ?_,
    fun b xs q => by rw [upd_ne (hm b _ q fun z => z)]; exact q, fun b u xs q => by rw [upd_ne (hm b _ q fun z => z)]; exact q, fun b ps q => ⟨#[], by rw [upd_ne (hm b _ q fun z => z), q]; simp⟩⟩
  by_cases hbe : b = e
  · subst hbe; exact heo
  · exact ⟨u, k b u hbe q⟩
end

/-! ### the heap without what is tracked -/
def trk (h : Heap) (H : Hp) : List Addr := (List.range h.objs.size).filter fun a => (H a).isSome
def hidT (h : Heap) (H : Hp) : Heap := PySem.W.hideAll h (trk h H)
theorem hidT_size (h : Heap) (H : Hp) : (hidT h H).objs.size = h.objs.size := PySem.W.hideAll_size _ _
theorem hidT_get {h : Heap} {H : Hp} {b : Addr} {o : Obj} (e : h.get? b = some o) (n : H b = none) : (hidT h H).get? b = some o :=
  PySem.W.hideAll_get _ e fun hm => by
    have q : (H b).isSome = true := (List.mem_filter.mp hm).2
    rw [n] at q; simp at q
theorem of_hidT {h : Heap} {H : Hp} {b : Addr} {o : Obj} (e : (hidT h H).get? b = some o) : h.get? b = some o ∧ H b = none := by
  have e' : h.get? b = some o := PySem.W.of_hideAll (trk h H) e
  refine ⟨e', ?_⟩
  cases q : H b with
  | none => rfl
  | some x =>
    have hm : b ∈ trk h H := List.mem_filter.mpr ⟨List.mem_range.mpr (Heap.lt_size e'), by simp [q]⟩
    have z : (hidT h H).get? b = none := PySem.W.hideAll_none (trk h H) hm
    rw [z] at e; cases e

/-! ### OpenK's ledger, filled with every new object but one -/
def allNews (g h : Heap) (L : Addr) : List (Addr × Obj) := (List.range h.objs.size).filterMap fun a => if a = L ∨ (g.get? a).isSome = true then none else (h.get? a).map fun o => (a, o)
def rest (g h : Heap) (L d : Addr) : List (Addr × Obj) := (allNews g h L).filter fun p => decide (p.1 ≠ d)
end L2

namespace L2
open PySem PySem.Spec PyProof.Rows

/-- the module's facts, over the base: the heap at the law's entry without what is tracked there -/
structure Mod (K : PySem.W.Frag) (mg : Str → Option Value) (base : Heap) : Prop where
  kin : K.In base
  glob : base.Ns mainGlobals mg
  blt : ∃ mb, base.Ns builtinsNs mb ∧ ∀ x : Str, x ≠ "__name__" → mb x = bootBuiltins x
  nolimit : base.NoLimit

/-- the context: a def's body (or a comprehension's block) running. base: fixed through the whole law; s₀, H₀: the entry; outer: the frames whose slots others may change (a def's callers); stack: all frames that run;
   ex: iterators that were made ahead of the entry and are walked here (a comprehension's); fn: the names whose cells were made at the entry (a def: all; a comprehension's block: its own); calm: not within an except suite; pn: pins that every state bears; xe: what is wanted of an exception that leaves the code -/
structure Cx where
  prog : Program
  w : World
  K : PySem.W.Frag
  mg : Str → Option Value
  base : Heap
  A : Around
  N : List Str
  s_0 : Shared
  H_0 : Hp
  env : Env
  outer : List Env
  stack : List Env
  ex : List Addr
  fn : Str → Bool
  calm : Bool
  pn : List (Addr × Obj)
  xe : Value → Shared → Prop
/-- the callers' frames -/
def frs (l : List Env) : List Addr := l.filterMap (·.frame)
abbrev Cx.fs (X : Cx) : List Addr := frs X.outer

def Vis (sc : Scope) (x : Str) : Prop := sc.names.lookup x = some .local ∨ sc.names.lookup x = some .cell ∨ sc.names.lookup x = some .free
def Loc (sc : Scope) (x : Str) : Prop := sc.names.lookup x = some .local ∨ sc.names.lookup x = some .cell
def Look (env : Env) (h : Heap) (m : Str → Option Value) (x : Str) (u : Value) : Prop :=
  (env.kindOf x = some .local ∧ m x = some u) ∨ ((env.kindOf x = some .cell ∨ env.kindOf x = some .free) ∧ ∃ c, env.cells.lookup x = some c ∧ h.IsCell c (some u))

structure Cx.Ok (X : Cx) : Prop where
  mod : Mod X.K X.mg X.base
  kind : X.env.scope.kind = .function
  glob : X.env.globals = mainGlobals
  blt : X.env.builtins = builtinsNs
  above : X.s_0.heap.objs.size ≤ X.env.locals
  inj : ∀ x y c, X.env.cells.lookup x = some c → X.env.cells.lookup y = some c → x = y
  has : ∀ x, (X.env.kindOf x = some .cell ∨ X.env.kindOf x = some .free) → ∃ c, X.env.cells.lookup x = some c
  cab : ∀ x c, X.fn x = true → X.env.cells.lookup x = some c → X.s_0.heap.objs.size ≤ c
  hd : X.calm = true → X.A.handled = none
  frames : X.A.frames = some X.stack
  stk : X.stack = X.outer ∨ (X.stack = X.env :: X.outer ∧ X.env.frame = some X.env.locals)
  exf : ∀ b ∈ X.ex, b ≠ X.env.locals ∧ ∀ x c, X.env.cells.lookup x = some c → c ≠ b
  bs : ∀ b o, X.base.get? b = some o → X.s_0.heap.get? b = some o ∧ X.H_0 b = none
  bsz : X.base.objs.size ≤ X.s_0.heap.objs.size
  noex : ∀ b o, X.base.get? b = some o → b ∉ X.ex
  exfs : ∀ b ∈ X.ex, b ∉ X.fs
  funs : X.s_0.heap.FunFrames X.base X.outer
  frf : ∀ b ∈ X.fs, X.H_0 b = none

structure Inv (X : Cx) (pins : List (Addr × Obj)) (σ : List (Option V)) (H : Hp) (s : Shared) : Prop where
  ok : X.Ok
  os : s.os = X.s_0.os
  bare : AllBare s.gens
  base : Un X.fs X.ex X.H_0 H X.s_0.heap s.heap
  loc : ∃ m, s.heap.Ns X.env.locals m ∧ ∀ (i : Nat) (x : Str) (v : V), X.N[i]? = some x → σ[i]? = some (some v) → Vis X.env.scope x → ∃ u, RelV v u ∧ Look X.env s.heap m x u
  cell : ∀ x c, X.env.cells.lookup x = some c → ∃ v, s.heap.IsCell c v
  free : H X.env.locals = none
  freeC : ∀ x c, X.env.cells.lookup x = some c → H c = none
  pin : ∀ p ∈ X.pn ++ pins, s.heap.get? p.1 = some p.2 ∧ H p.1 = none ∧ p.1 ≠ X.env.locals ∧ p.1 ∉ X.fs ∧ ∀ v, p.2.data ≠ .cell v
  hok : HOk X.prog X.w H s.heap
  len : σ.length = X.N.length

section
variable {X : Cx} {pins : List (Addr × Obj)} {σ : List (Option V)} {H H' : Hp} {s : Shared} {h' : Heap}

theorem Cx.Ok.nofr (ok : X.Ok) {b : Addr} {o : Obj} (e : X.base.get? b = some o) : b ∉ X.fs := fun hb => by
  have := (ok.funs.mem hb).1
  rw [e] at this; cases this
theorem Inv.bs (I : Inv X pins σ H s) : ∀ b o, X.base.get? b = some o → s.heap.get? b = some o ∧ H b = none := fun b o e =>
  ⟨I.base.keep b o (I.ok.bs b o e).1 (I.ok.bs b o e).2 (I.ok.nofr e) (I.ok.noex b o e), I.base.free b o (I.ok.bs b o e).1 (I.ok.bs b o e).2 (I.ok.noex b o e)⟩
theorem Inv.bk (I : Inv X pins σ H s) : ∀ b o, X.base.get? b = some o → s.heap.get? b = some o := fun b o e => (I.bs b o e).1
theorem Inv.mod (I : Inv X pins σ H s) : Mod X.K X.mg X.base := I.ok.mod
theorem Inv.kIn (I : Inv X pins σ H s) : X.K.In s.heap := I.ok.mod.kin.keeps I.bk
/-- the frame over the base: for OpenK's rules (K.In X.base is I.mod.kin) -/
theorem Inv.fr (I : Inv X pins σ H s) : ∃ m, Fr X.base X.env.locals s.heap m :=
  let ⟨m, hn, _⟩ := I.loc
  ⟨m, hn, I.bk, Nat.le_trans I.ok.bsz I.ok.above⟩
theorem Inv.lt (I : Inv X pins σ H s) : X.env.locals < s.heap.objs.size := let ⟨_, hn, _⟩ := I.loc; hn.lt
theorem Inv.sz (I : Inv X pins σ H s) : X.s_0.heap.objs.size ≤ s.heap.objs.size := Nat.le_trans I.ok.above (Nat.le_of_lt I.lt)
theorem Inv.nofs (I : Inv X pins σ H s) {a : Addr} (h : s.heap.objs.size ≤ a) : a ∉ X.fs := fun hb => by
  obtain ⟨_, o, ho, _⟩ := I.ok.funs.mem hb
  exact absurd (Nat.lt_of_lt_of_le (Heap.lt_size ho) (Nat.le_trans I.sz h)) (Nat.lt_irrefl _)
theorem Inv.cne (I : Inv X pins σ H s) : ∀ x c, X.env.cells.lookup x = some c → c ≠ X.env.locals := fun x c e z => by
  obtain ⟨v, o, ho, hd⟩ := I.cell x c e
  obtain ⟨m, ⟨o', es, ep, ho', hd', _⟩, _⟩ := I.loc
  rw [z, ho'] at ho; cases ho; rw [hd'] at hd; cases hd
theorem Inv.funs (I : Inv X pins σ H s) : s.heap.FunFrames X.base X.outer := by
  have all : ∀ (l : List Env), (∀ b ∈ frs l, b ∈ X.fs) → X.s_0.heap.FunFrames X.base l → s.heap.FunFrames X.base l := by
    intro l
    induction l with
    | nil => intro _ _; trivial
    | cons env r ih =>
      intro hs hl
      obtain ⟨hk, ⟨L, o, hf, hn, ho, hd⟩, hr⟩ := hl
      have hL : L ∈ X.fs := hs L (by unfold frs; rw [List.filterMap_cons, hf]; exact List.mem_cons_self)
      obtain ⟨sl, e⟩ := I.base.slot L o ho (I.ok.frf L hL) hL fun z => I.ok.exfs L z hL
      exact ⟨hk, ⟨L, _, hf, hn, e, hd⟩, ih (fun b hb => hs b (by unfold frs; rw [List.filterMap_cons, hf]; exact List.mem_cons_of_mem _ hb)) hr⟩
  exact all X.outer (fun _ hb => hb) I.ok.funs

/-- the frames that run, for a call -/
theorem Inv.stack (I : Inv X pins σ H s) : s.heap.FunFrames X.base X.stack := by
  rcases I.ok.stk with e | ⟨e, hf⟩
  · rw [e]; exact I.funs
  · rw [e]
    obtain ⟨m, hn, _⟩ := I.loc
    refine .cons (by rw [I.ok.kind]; decide) hf hn ?_ I.funs
    exact Heap.get?_none_of_le (Nat.le_trans I.ok.bsz I.ok.above)
theorem Inv.stkSub (I : Inv X pins σ H s) : ∀ b ∈ frs X.stack, b ∈ X.env.locals :: X.fs := fun b hb => by
  rcases I.ok.stk with e | ⟨e, hf⟩
  · rw [e] at hb; exact List.mem_cons_of_mem _ hb
  · rw [e] at hb
    unfold frs at hb
    rw [List.filterMap_cons, hf] at hb
    exact hb
theorem Inv.stkFree (I : Inv X pins σ H s) : ∀ b ∈ frs X.stack, H b = none := fun b hb => by
  rcases List.mem_cons.mp (I.stkSub b hb) with e | hb
  · rw [e]; exact I.free
  · obtain ⟨_, o, ho, _⟩ := I.ok.funs.mem hb
    exact I.base.free b o ho (I.ok.frf b hb) fun z => I.ok.exfs b z hb

/-- THE STEP: the untracked objects but the frame and the records at ch are kept (the callers' frames up to slots), the frame's map is kept, the new abstract heap is held -/
theorem Inv.step {g' : Array GenState} {t' : Nat} {d' : Drawn} {ch : List Addr} (I : Inv X pins σ H s)
    (hch : ∀ b ∈ ch, (b ∈ X.ex ∨ X.s_0.heap.objs.size ≤ b) ∧ b ≠ X.env.locals ∧ (∀ x c, X.env.cells.lookup x = some c → c ≠ b) ∧ ∀ p ∈ X.pn ++ pins, p.1 ≠ b)
    (keep : ∀ b o, b ≠ X.env.locals → b ∉ X.fs → b ∉ ch → s.heap.get? b = some o → H b = none → h'.get? b = some o)
    (slot : ∀ b o, b ≠ X.env.locals → b ∈ X.fs → b ∉ ch → s.heap.get? b = some o → H b = none → ∃ sl, h'.get? b = some { o with slots := sl }) (free : ∀ b o, b ∉ ch → s.heap.get? b = some o → H b = none → H' b = none)
    (there : ∀ b o, b ∉ ch → s.heap.get? b = some o → ∃ o', h'.get? b = some o')
    (tups : ∀ b xs, H b = some (.tup xs) → H' b = some (.tup xs)) (frzs : ∀ b o u, H b = some (.frz o u) → H' b = some (.frz o u)) (tbls : ∀ b ps, H b = some (.tbl ps) → ∃ more, H' b = some (.tbl (ps ++ more)))
    (ns : ∀ m, s.heap.Ns X.env.locals m → h'.Ns X.env.locals m) (hok : HOk X.prog X.w H' h') (hg : AllBare g') :
    Inv X pins σ H' { s with heap := h', gens := g', drawn := d', toks := t' } := by
  have neL : ∀ b o, X.s_0.heap.get? b = some o → b ≠ X.env.locals := fun b o e => Nat.ne_of_lt (Nat.lt_of_lt_of_le (Heap.lt_size e) I.ok.above)
  have neC : ∀ b o, X.s_0.heap.get? b = some o → b ∉ X.ex → b ∉ ch := fun b o e hx hb => by
    rcases (hch b hb).1 with z | z
    · exact hx z
    · exact absurd (Nat.lt_of_lt_of_le (Heap.lt_size e) z) (Nat.lt_irrefl _)
  have cellK : ∀ x c, X.env.cells.lookup x = some c → ∀ v, s.heap.IsCell c v → h'.IsCell c v := fun x c e v ⟨o, ho, hd⟩ => by
    have nch : c ∉ ch := fun z => (hch c z).2.2.1 x c e rfl
    by_cases hc : c ∈ X.fs
    · obtain ⟨sl, q⟩ := slot c o (I.cne x c e) hc nch ho (I.freeC x c e)
      exact ⟨_, q, hd⟩
    · exact ⟨o, keep c o (I.cne x c e) hc nch ho (I.freeC x c e), hd⟩
  refine ⟨I.ok, I.os, hg, ⟨fun b o e n hb hx => ?_, fun b o e n hb hx => ?_, fun b o e n hx => ?_, fun b o e hx => ?_, fun b xs e => tups b xs (I.base.tups b xs e), fun b o xs e => frzs b o xs (I.base.frzs b o xs e), fun b ps e => ?_⟩, ?_, fun x c e => ?_, ?_, fun x c e => ?_, fun p hp => ?_, hok, I.len⟩
  · exact keep b o (neL b o e) hb (neC b o e hx) (I.base.keep b o e n hb hx) (I.base.free b o e n hx)
  · obtain ⟨sl, e1⟩ := I.base.slot b o e n hb hx
    obtain ⟨sl', e2⟩ := slot b _ (neL b o e) hb (neC b o e hx) e1 (I.base.free b o e n hx)
    exact ⟨sl', e2⟩
  · obtain ⟨o', e1⟩ := I.base.there b o e hx
    exact free b o' (neC b o e hx) e1 (I.base.free b o e n hx)
  · obtain ⟨o', e1⟩ := I.base.there b o e hx
    exact there b o' (neC b o e hx) e1
  · obtain ⟨m1, e1⟩ := I.base.tbls b ps e
    obtain ⟨m2, e2⟩ := tbls b _ e1
    exact ⟨m1 ++ m2, by rw [e2, Array.append_assoc]⟩
  · obtain ⟨m, hn, hl⟩ := I.loc
    refine ⟨m, ns m hn, fun i x v e1 e2 e3 => ?_⟩
    obtain ⟨u, r, l⟩ := hl i x v e1 e2 e3
    refine ⟨u, r, ?_⟩
    rcases l with l | ⟨k, c, e, z⟩
    · exact .inl l
    · exact .inr ⟨k, c, e, cellK x c e _ z⟩
  · obtain ⟨v, z⟩ := I.cell x c e
    exact ⟨v, cellK x c e v z⟩
  · obtain ⟨m, ⟨o, _, _, ho, _⟩, _⟩ := I.loc
    exact free _ o (fun z => (hch _ z).2.1 rfl) ho I.free
  · obtain ⟨v, o, ho, hd⟩ := I.cell x c e
    exact free c o (fun z => (hch c z).2.2.1 x c e rfl) ho (I.freeC x c e)
  · obtain ⟨e, n, ne, nf, d⟩ := I.pin p hp
    have nch : p.1 ∉ ch := fun z => (hch p.1 z).2.2.2 p hp rfl
    exact ⟨keep p.1 p.2 ne nf nch e n, free p.1 p.2 nch e n, ne, nf, d⟩
/-- .. where the frame's own object is kept too -/
theorem Inv.un {t' : Nat} (I : Inv X pins σ H s) (u : Un X.fs [] H H' s.heap h') (hok : HOk X.prog X.w H' h') : Inv X pins σ H' { s with heap := h', toks := t' } := by
  obtain ⟨m, ⟨o, es, ep, ho, r⟩, _⟩ := id I.loc
  obtain ⟨sl, hL⟩ := u.any ho I.free (by simp)
  exact I.step (g' := s.gens) (d' := s.drawn) (ch := []) (fun _ z => nomatch z) (fun b o _ hb _ e n => u.keep b o e n hb (by simp)) (fun b o _ hb _ e n => u.slot b o e n hb (by simp)) (fun b o _ e n => u.free b o e n (by simp)) (fun b o _ e => u.there b o e (by simp)) u.tups u.frzs u.tbls (fun m' hm => by
    obtain ⟨o', es', ep', ho', r'⟩ := hm
    rw [ho] at ho'; cases ho'
    exact ⟨_, es', ep', hL, r'⟩) hok I.bare
/-- behind a call (or a comprehension's block): the slots of this frame may have changed too, the records at ch may have turned -/
theorem Inv.call {g' : Array GenState} {t' : Nat} {d' : Drawn} {ch : List Addr} (I : Inv X pins σ H s) (u : Un (frs X.stack) ch H H' s.heap h') (hok : HOk X.prog X.w H' h') (hg : AllBare g')
    (hch : ∀ b ∈ ch, (b ∈ X.ex ∨ X.s_0.heap.objs.size ≤ b) ∧ b ≠ X.env.locals ∧ (∀ x c, X.env.cells.lookup x = some c → c ≠ b) ∧ ∀ p ∈ X.pn ++ pins, p.1 ≠ b) :
    Inv X pins σ H' { s with heap := h', gens := g', drawn := d', toks := t' } := by
  obtain ⟨m, ⟨o, es, ep, ho, r⟩, _⟩ := id I.loc
  obtain ⟨sl, hL⟩ := u.any ho I.free fun z => (hch _ z).2.1 rfl
  exact I.step (ch := ch) hch (fun b o hL hb hc e n => u.keep b o e n (fun z => (List.mem_cons.mp (I.stkSub b z)).elim hL hb) hc) (fun b o _ _ hc e n => u.any e n hc) (fun b o hc e n => u.free b o e n hc) (fun b o hc e => u.there b o e hc) u.tups u.frzs u.tbls (fun m' hm => by
    obtain ⟨o', es', ep', ho', r'⟩ := hm
    rw [ho] at ho'; cases ho'
    exact ⟨_, es', ep', hL, r'⟩) hok hg
/-- an untracked record of ours (an iterator) has turned -/
theorem Inv.turned {t' : Nat} {it : Addr} (I : Inv X pins σ H s) (k : ∀ b o, b ≠ it → s.heap.get? b = some o → h'.get? b = some o) (hn : H it = none) (hL : it ≠ X.env.locals)
    (h1 : it ∈ X.ex ∨ X.s_0.heap.objs.size ≤ it) (h2 : ∀ x c, X.env.cells.lookup x = some c → c ≠ it) (h3 : ∀ p ∈ X.pn ++ pins, p.1 ≠ it) : Inv X pins σ H { s with heap := h', toks := t' } := by
  have nit : ∀ b u, H b = some u → b ≠ it := fun b u e z => by rw [z, hn] at e; cases e
  refine I.step (g' := s.gens) (d' := s.drawn) (ch := [it]) (fun b hb => ?_) (fun b o _ _ hc e _ => k b o (fun z => hc (by simp [z])) e) (fun b o _ _ hc e _ => ⟨o.slots, k b o (fun z => hc (by simp [z])) e⟩) (fun _ _ _ _ n => n)
    (fun b o hc e => ⟨o, k b o (fun z => hc (by simp [z])) e⟩) (fun _ _ e => e) (fun _ _ _ e => e) (fun b ps e => ⟨#[], by rw [e]; simp⟩) (fun m hm => ?_) (fun b u e => ?_) I.bare
  · have e : b = it := by simpa using hb
    subst e
    exact ⟨h1, hL, h2, h3⟩
  · obtain ⟨o, es, ep, ho, r⟩ := hm
    exact ⟨o, es, ep, k _ o (Ne.symm hL) ho, r⟩
  · refine (I.hok b u e).stay (fun c v hc q => k c v ?_ q) (fun _ q => q) fun _ _ q => q
    rcases hc with z | z
    · rw [z]; exact nit b u e
    · exact nit c _ z
theorem Inv.tok (I : Inv X pins σ H s) (t : Nat) : Inv X pins σ H { s with toks := t } := I.un (h' := s.heap) (t' := t) Un.refl I.hok
/-- all objects kept -/
theorem Inv.kept {t' : Nat} (I : Inv X pins σ H s) (k : ∀ b u, s.heap.get? b = some u → h'.get? b = some u) : Inv X pins σ H { s with heap := h', toks := t' } := I.un (Un.kept k) (I.hok.kept k)
/-- a new object laid and tracked -/
theorem Inv.laid {a : Addr} {o : HO} {t' : Nat} (I : Inv X pins σ H s) (k : ∀ b u, s.heap.get? b = some u → h'.get? b = some u) (hp : s.heap.objs.size ≤ a) (new : ObjOk X.prog X.w (upd H a o) h' a o) :
    Inv X pins σ (upd H a o) { s with heap := h', toks := t' } := I.un (Un.laid k hp (I.hok.fresh hp)) (I.hok.laid k hp new)
/-- an object written -/
theorem Inv.write {x e : Addr} {o : HO} {t' : Nat} (I : Inv X pins σ H s) (mu : Mut (H x)) (he : e = x ∨ H e = some (.own x)) (k : ∀ b u, b ≠ e → s.heap.get? b = some u → h'.get? b = some u) (heo : ∃ u, h'.get? e = some u)
    (new : ObjOk X.prog X.w (upd H x o) h' x o) : Inv X pins σ (upd H x o) { s with heap := h', toks := t' } := I.un (Un.write mu he k heo) (I.hok.write mu he k heo new)
/-- forgetting slots, pins -/
theorem Inv.weak {σ' : List (Option V)} (I : Inv X pins σ H s) (hl : σ'.length = σ.length) (w : ∀ (i : Nat) v, σ'[i]? = some (some v) → σ[i]? = some (some v)) : Inv X pins σ' H s :=
  ⟨I.ok, I.os, I.bare, I.base, let ⟨m, hn, hl'⟩ := I.loc; ⟨m, hn, fun i x v e1 e2 e3 => hl' i x v e1 (w i v e2) e3⟩, I.cell, I.free, I.freeC, I.pin, I.hok, hl.trans I.len⟩
theorem Inv.pins_of {pins' : List (Addr × Obj)} (I : Inv X pins σ H s) (h : ∀ p ∈ pins', s.heap.get? p.1 = some p.2 ∧ H p.1 = none ∧ p.1 ≠ X.env.locals ∧ p.1 ∉ X.fs ∧ ∀ v, p.2.data ≠ .cell v) : Inv X pins' σ H s :=
  ⟨I.ok, I.os, I.bare, I.base, I.loc, I.cell, I.free, I.freeC, fun p hp => (List.mem_append.mp hp).elim (fun z => I.pin p (List.mem_append_left _ z)) (h p), I.hok, I.len⟩

theorem nodup_ix {N : List Str} (hN : N.Nodup) {i j : Nat} {x : Str} (a : N[i]? = some x) (b : N[j]? = some x) : i = j := by
  obtain ⟨h1, e1⟩ := List.getElem?_eq_some_iff.mp a
  obtain ⟨h2, e2⟩ := List.getElem?_eq_some_iff.mp b
  exact (List.getElem_inj hN).mp (e1.trans e2.symm)

/-- a name is stored; what changed -/
theorem store_ok2 {M : Model} {A : Around} {E : Value → Shared → Prop} {i : Nat} {x : Str} {v : V} {u : Value} {Q : Unit → Shared → Prop} (I : Inv X pins σ H s) (hN : X.N.Nodup) (hi : X.N[i]? = some x) (hx : Loc X.env.scope x) (r : RelV v u)
    (h : ∀ s', Inv X pins (σ.set i (some v)) H s' → (∃ a, Heap.SameBut a s.heap s'.heap ∧ (a = X.env.locals ∨ X.env.cells.lookup x = some a)) → Q () s') (hf : X.fn x = true ∨ X.env.scope.names.lookup x = some .local := by first | exact .inl rfl | exact .inr rfl | assumption) : wpAny M A (storeName X.env x u) Q E s := by
  obtain ⟨m, hn, hl⟩ := id I.loc
  have hcls : (X.env.scope.kind == .class || (X.env.scope.kind == .module && X.env.locals != X.env.globals)) = false := by rw [I.ok.kind]; rfl
  have hiσ : i < σ.length := by rw [I.len]; exact (List.getElem?_eq_some_iff.mp hi).1
  have cne := I.cne
  have tracked : ∀ {a : Addr} {h' : Heap}, (∃ o, s.heap.get? a = some o ∧ H a = none) → Heap.SameBut a s.heap h' → HOk X.prog X.w H h' := fun {a h'} ha hs b ob e => by
    obtain ⟨_, _, hfree⟩ := ha
    refine (I.hok b ob e).stay (fun c w' hc q => (hs.2 c ?_).trans q) (fun _ q => q) fun _ _ q => q
    rintro rfl
    rcases hc with rfl | hc
    · rw [hfree] at e; cases e
    · rw [hfree] at hc; cases hc
  rcases hx with hk | hk
  · refine wpAny_storeName_local hk hn (fun h' hn' hs => ?_) hcls
    obtain ⟨oL, _, _, hoL, _⟩ := id hn
    refine h _ ⟨I.ok, I.os, I.bare, ⟨fun b o e n hb hx => ?_, fun b o e n hb hx => ?_, I.base.free, fun b o e hx => ?_, I.base.tups, I.base.frzs, I.base.tbls⟩, ⟨_, hn', fun j y v' e1 e2 e3 => ?_⟩, fun y c e => ?_, I.free, I.freeC, fun p hp => ?_, tracked ⟨oL, hoL, I.free⟩ hs, by simpa using I.len⟩ ⟨_, hs, .inl rfl⟩
    · exact (hs.2 b (Nat.ne_of_lt (Nat.lt_of_lt_of_le (Heap.lt_size e) I.ok.above))).trans (I.base.keep b o e n hb hx)
    · obtain ⟨sl, e1⟩ := I.base.slot b o e n hb hx
      exact ⟨sl, (hs.2 b (Nat.ne_of_lt (Nat.lt_of_lt_of_le (Heap.lt_size e) I.ok.above))).trans e1⟩
    · obtain ⟨o', e1⟩ := I.base.there b o e hx
      exact ⟨o', (hs.2 b (Nat.ne_of_lt (Nat.lt_of_lt_of_le (Heap.lt_size e) I.ok.above))).trans e1⟩
    · by_cases hj : j = i
      · subst hj
        rw [hi] at e1; cases e1
        rw [List.getElem?_set_self hiσ] at e2
        cases e2
        exact ⟨u, r, .inl ⟨hk, by simp⟩⟩
      · rw [List.getElem?_set_ne (Ne.symm hj)] at e2
        obtain ⟨u', r', q⟩ := hl j y v' e1 e2 e3
        refine ⟨u', r', ?_⟩
        rcases q with ⟨k, e⟩ | ⟨k, c, e, z⟩
        · refine .inl ⟨k, ?_⟩
          have : y ≠ x := fun e => hj (nodup_ix hN e1 (e ▸ hi))
          simp [this, e]
        · exact .inr ⟨k, c, e, z.sameBut hs (cne y c e)⟩
    · obtain ⟨w', z⟩ := I.cell y c e
      exact ⟨w', z.sameBut hs (cne y c e)⟩
    · obtain ⟨e, n, ne, nf, d⟩ := I.pin p hp
      exact ⟨(hs.2 p.1 ne).trans e, n, ne, nf, d⟩
  · have hfn : X.fn x = true := by
      rcases hf with z | z
      · exact z
      · rw [z] at hk; cases hk
    obtain ⟨c, hc⟩ := I.ok.has x (.inl hk)
    obtain ⟨w', z⟩ := I.cell x c hc
    refine wpAny_storeName_cell I.ok.kind hk hc z (fun h' hc' hs => ?_)
    obtain ⟨oc, hoc, hocd⟩ := id z
    refine h { s with heap := h' } ⟨I.ok, I.os, I.bare, ⟨fun b o e n hb hx => ?_, fun b o e n hb hx => ?_, I.base.free, fun b o e hx => ?_, I.base.tups, I.base.frzs, I.base.tbls⟩, ⟨m, hn.sameBut hs (Ne.symm (cne x c hc)), fun j y v' e1 e2 e3 => ?_⟩, fun y c' e => ?_, I.free, I.freeC, fun p hp => ?_, tracked ⟨oc, hoc, I.freeC x c hc⟩ hs, by simpa using I.len⟩ ⟨c, hs, .inr hc⟩
    · exact (hs.2 b (Nat.ne_of_lt (Nat.lt_of_lt_of_le (Heap.lt_size e) (I.ok.cab x c hfn hc)))).trans (I.base.keep b o e n hb hx)
    · obtain ⟨sl, e1⟩ := I.base.slot b o e n hb hx
      exact ⟨sl, (hs.2 b (Nat.ne_of_lt (Nat.lt_of_lt_of_le (Heap.lt_size e) (I.ok.cab x c hfn hc)))).trans e1⟩
    · obtain ⟨o', e1⟩ := I.base.there b o e hx
      exact ⟨o', (hs.2 b (Nat.ne_of_lt (Nat.lt_of_lt_of_le (Heap.lt_size e) (I.ok.cab x c hfn hc)))).trans e1⟩
    · by_cases hj : j = i
      · subst hj
        rw [hi] at e1; cases e1
        rw [List.getElem?_set_self hiσ] at e2
        cases e2
        exact ⟨u, r, .inr ⟨.inl hk, c, hc, hc'⟩⟩
      · rw [List.getElem?_set_ne (Ne.symm hj)] at e2
        obtain ⟨u', r', q⟩ := hl j y v' e1 e2 e3
        refine ⟨u', r', ?_⟩
        rcases q with q | ⟨k, c', e, z'⟩
        · exact .inl q
        · refine .inr ⟨k, c', e, z'.sameBut hs ?_⟩
          rintro rfl
          exact hj (nodup_ix hN e1 (I.ok.inj _ _ _ e hc ▸ hi))
    · by_cases hcc : c' = c
      · subst hcc; exact ⟨_, hc'⟩
      · obtain ⟨w2, z2⟩ := I.cell y c' e
        exact ⟨w2, z2.sameBut hs hcc⟩
    · obtain ⟨e, n, ne, nf, d⟩ := I.pin p hp
      refine ⟨(hs.2 p.1 ?_).trans e, n, ne, nf, d⟩
      intro q
      rw [q, hoc] at e
      have q' : oc = p.2 := Option.some.inj e
      exact d w' (by rw [← q']; exact hocd)
theorem store_ok {M : Model} {A : Around} {E : Value → Shared → Prop} {i : Nat} {x : Str} {v : V} {u : Value} {Q : Unit → Shared → Prop} (I : Inv X pins σ H s) (hN : X.N.Nodup) (hi : X.N[i]? = some x) (hx : Loc X.env.scope x) (r : RelV v u)
    (h : ∀ s', Inv X pins (σ.set i (some v)) H s' → Q () s') (hf : X.fn x = true ∨ X.env.scope.names.lookup x = some .local := by first | exact .inl rfl | exact .inr rfl | assumption) : wpAny M A (storeName X.env x u) Q E s :=
  store_ok2 I hN hi hx r (fun s' I' _ => h s' I') hf
/-- behind a call or a block, the state as it is -/
theorem Inv.call' {s' : Shared} {ch : List Addr} (I : Inv X pins σ H s) (ho : s'.os = s.os) (u : Un (frs X.stack) ch H H' s.heap s'.heap) (hok : HOk X.prog X.w H' s'.heap) (hg : AllBare s'.gens)
    (hch : ∀ b ∈ ch, (b ∈ X.ex ∨ X.s_0.heap.objs.size ≤ b) ∧ b ≠ X.env.locals ∧ (∀ x c, X.env.cells.lookup x = some c → c ≠ b) ∧ ∀ p ∈ X.pn ++ pins, p.1 ≠ b) : Inv X pins σ H' s' := by
  obtain ⟨h', g', d', t', o'⟩ := s'
  have e : o' = s.os := ho
  subst e
  exact I.call (g' := g') (t' := t') (d' := d') u hok hg hch
end

/-! ### the judgements -/
/-- an exception: its class, its own dict's address (where it has one), the abstract heap behind it -/
abbrev XK := Value → Option Addr → Hp → Prop
abbrev St := List (Option V)
abbrev VK := V → Hp → Prop
/-- an expression's reading; a test's; an argument list's -/
abbrev TE := St → Hp → VK → Prop
abbrev TT := St → Hp → (Bool → Hp → Prop) → Prop
abbrev TA := St → Hp → (List V → Hp → Prop) → Prop
/-- what is wanted behind a statement -/
structure Ends where
  nx : St → Hp → Prop
  rt : VK
  bk : St → Hp → Prop := fun _ _ => False
  ct : St → Hp → Prop := fun _ _ => False
abbrev TS := Ends → St → Hp → Prop

def EP (X : Cx) (pins : List (Addr × Obj)) (σ : St) (Q : VK) (u : Value) (s' : Shared) : Prop := ∃ v H', Inv X pins σ H' s' ∧ RelV v u ∧ Q v H'
def TP (X : Cx) (pins : List (Addr × Obj)) (σ : St) (Q : Bool → Hp → Prop) (b : Bool) (s' : Shared) : Prop := ∃ H', Inv X pins σ H' s' ∧ Q b H'
def AP (X : Cx) (pins : List (Addr × Obj)) (σ : St) (Q : List V → Hp → Prop) (us : List Value) (s' : Shared) : Prop := ∃ vs H', Inv X pins σ H' s' ∧ Vals vs us ∧ Q vs H'
def SP (X : Cx) (pins : List (Addr × Obj)) (D : Ends) (f : Flow) (s' : Shared) : Prop :=
  match f with
  | .next => ∃ σ' H', Inv X pins σ' H' s' ∧ D.nx σ' H'
  | .brk => ∃ σ' H', Inv X pins σ' H' s' ∧ D.bk σ' H'
  | .cont => ∃ σ' H', Inv X pins σ' H' s' ∧ D.ct σ' H'
  | .ret u => ∃ v σ' H', Inv X pins σ' H' s' ∧ RelV v u ∧ D.rt v H'

def PE (X : Cx) (e : Expr) (t : TE) : Prop :=
  ∀ (pins : List (Addr × Obj)) (s : Shared) (σ : St) (H : Hp) (Q : VK), Inv X pins σ H s → t σ H Q → wpAny (model X.prog X.w) X.A (eval e X.env) (EP X pins σ Q) X.xe s
def PT (X : Cx) (e : Expr) (t : TT) : Prop :=
  ∀ (pins : List (Addr × Obj)) (s : Shared) (σ : St) (H : Hp) (Q : Bool → Hp → Prop), Inv X pins σ H s → t σ H Q → wpAny (model X.prog X.w) X.A (isTrue e X.env (eval e X.env)) (TP X pins σ Q) X.xe s
/-- a test whatever its 'whole' is (and, or) -/
def PW (X : Cx) (e : Expr) (t : TT) : Prop :=
  ∀ (whole : Sem Value) (pins : List (Addr × Obj)) (s : Shared) (σ : St) (H : Hp) (Q : Bool → Hp → Prop), Inv X pins σ H s → t σ H Q → wpAny (model X.prog X.w) X.A (isTrue e X.env whole) (TP X pins σ Q) X.xe s
theorem PW.pt {X : Cx} {e : Expr} {t : TT} (h : PW X e t) : PT X e t := h _
/-- an argument list (no star), from the left -/
def PA (X : Cx) (es : List Expr) (t : TA) : Prop :=
  ∀ (pos : Pos) (pins : List (Addr × Obj)) (s : Shared) (σ : St) (H : Hp) (Q : List V → Hp → Prop), Inv X pins σ H s → t σ H Q → wpAny (model X.prog X.w) X.A (spliced (backTo pos (starEach es X.env))) (AP X pins σ Q) X.xe s
def PS (X : Cx) (st : Stmt) (t : TS) : Prop :=
  ∀ (pins : List (Addr × Obj)) (s : Shared) (σ : St) (H : Hp) (D : Ends), Inv X pins σ H s → t D σ H → wpAny (model X.prog X.w) X.A (exec st X.env) (SP X pins D) X.xe s
def PSs (X : Cx) (st : List Stmt) (t : TS) : Prop :=
  ∀ (pins : List (Addr × Obj)) (s : Shared) (σ : St) (H : Hp) (D : Ends), Inv X pins σ H s → t D σ H → wpAny (model X.prog X.w) X.A (execs st X.env) (SP X pins D) X.xe s
/-- weaken the end -/
theorem thn {α : Type} {t : Sem α} {Q Q' : α → Shared → Prop} {M : Model} {A : Around} {E : Value → Shared → Prop} {s : Shared} (h : wpAny M A t Q E s) (hQ : ∀ a s, Q a s → Q' a s) : wpAny M A t Q' E s := wpAny_mono h hQ fun _ _ x => x
end L2

namespace L2
open PySem PySem.Spec PyProof.Rows
section
variable {X : Cx}

/-- two expressions in a row -/
theorem bin {a b : Expr} {ta tb : TE} (ha : PE X a ta) (hb : PE X b tb) {pins : List (Addr × Obj)} {s : Shared} {σ : St} {H : Hp} {R : V → V → Hp → Prop} (I : Inv X pins σ H s) (h : ta σ H fun x H1 => tb σ H1 fun y H2 => R x y H2)
    {α : Type} {Q : α → Shared → Prop} {f : Value → Value → Sem α}
    (hf : ∀ v u s2 x y H2, Inv X pins σ H2 s2 → RelV x v → RelV y u → R x y H2 → wpAny (model X.prog X.w) X.A (f v u) Q X.xe s2) :
    wpAny (model X.prog X.w) X.A (eval a X.env) (fun v s₁ => wpAny (model X.prog X.w) X.A (eval b X.env) (fun u s₂ => wpAny (model X.prog X.w) X.A (f v u) Q X.xe s₂) X.xe s₁) X.xe s := by
  refine thn (ha pins s σ H _ I h) fun v s1 ⟨x, H1, I1, r1, q1⟩ => ?_
  refine thn (hb pins s1 σ H1 _ I1 q1) fun u s2 ⟨y, H2, I2, r2, q2⟩ => ?_
  exact hf v u s2 x y H2 I2 r1 r2 q2

/-! ### names and constants -/
def tVar (i : Nat) : TE := fun σ H Q => ∃ v, σ[i]? = some (some v) ∧ Q v H
def tC (v : V) : TE := fun _ H Q => Q v H
theorem pe_var {i : Nat} {x : Str} {pos : Pos} (hN : X.N[i]? = some x) (hv : Vis X.env.scope x) (hd : (x == ("__debug__" : Str)) = false := by decide) (hcd : (x == ("__classdict__" : Str)) = false := by decide) : PE X (.Name x pos) (tVar i) := by
  intro pins s σ H Q I h
  obtain ⟨v, e, h⟩ := h
  obtain ⟨m, hn, hl⟩ := I.loc
  obtain ⟨u, r, l⟩ := hl i x v hN e hv
  have fin : EP X pins σ Q u s := ⟨v, H, I, r, h⟩
  rcases l with ⟨hk, hm⟩ | ⟨hk, c, hc, hcell⟩
  · exact wpAny_Name (wpAny_loadName_local I.ok.kind hk hn hm fin) hd
  · rcases hk with hk | hk
    · exact wpAny_Name (wpAny_loadName_cell I.ok.kind hk hc hcell fin) hd
    · exact wpAny_Name (wpAny_loadName_free I.ok.kind hk hc hcell fin hcd) hd
theorem pe_int {i j pos} : PE X (.Constant (.int i) j pos) (tC (.int i)) := fun _ _ _ H _ I h => wpAny_Constant_int ⟨.int i, H, I.tok _, ⟨_, rfl⟩, h⟩
theorem pe_bl {b j pos} : PE X (.Constant (.bool b) j pos) (tC (.bl b)) := fun _ _ _ H _ I h => Constant_bool ⟨.bl b, H, I, rfl, h⟩
/-- a global name of the def -/
def Gl (X : Cx) (x : Str) : Prop := X.env.kindOf x = some .globalImplicit
theorem ld_glob {E : Value → Shared → Prop} {pins : List (Addr × Obj)} {s : Shared} {σ : St} {H : Hp} {x : Str} {u : Value} {pos : Pos} {Q : Value → Shared → Prop} (I : Inv X pins σ H s) (hg : Gl X x) (hm : X.mg x = some u) (h : Q u s)
    (hd : (x == ("__debug__" : Str)) = false := by decide) : wpAny (model X.prog X.w) X.A (eval (.Name x pos) X.env) Q E s :=
  Calls.Name_function_global I.ok.kind hg (Calls.loadGlobal_global (by rw [I.ok.glob]; exact I.mod.glob.keeps I.bk) hm h) hd
theorem ld_blt {E : Value → Shared → Prop} {pins : List (Addr × Obj)} {s : Shared} {σ : St} {H : Hp} {x : Str} {u : Value} {pos : Pos} {Q : Value → Shared → Prop} (I : Inv X pins σ H s) (hg : Gl X x) (hm : X.mg x = none) (hv : bootBuiltins x = some u) (h : Q u s)
    (hn : x ≠ "__name__" := by decide) (hd : (x == ("__debug__" : Str)) = false := by decide) : wpAny (model X.prog X.w) X.A (eval (.Name x pos) X.env) Q E s := by
  obtain ⟨mb, h1, h2⟩ := I.mod.blt
  exact Calls.Name_function_global I.ok.kind hg (Calls.loadGlobal_builtin (by rw [I.ok.glob]; exact I.mod.glob.keeps I.bk) hm (by rw [I.ok.blt]; exact h1.keeps I.bk) ((h2 x hn).trans hv) h) hd
/-- a module's constant, a class, a function, as a value -/
theorem pe_glob {x : Str} {v : V} {u : Value} {pos : Pos} (hg : Gl X x) (hm : X.mg x = some u) (r : RelV v u) (hd : (x == ("__debug__" : Str)) = false := by decide) : PE X (.Name x pos) (tC v) :=
  fun _ _ _ H _ I h => ld_glob I hg hm ⟨v, H, I, r, h⟩ hd
/-! ### arithmetic -/
/-- two ints -/
def t2I (ta tb : TE) (k : Int → Int → Hp → Prop) : St → Hp → Prop := fun σ H => ta σ H fun x H1 => tb σ H1 fun y H2 => ∃ i j, x = .int i ∧ y = .int j ∧ k i j H2
def tAdd (ta tb : TE) : TE := fun σ H Q => t2I ta tb (fun i j H2 => Q (.int (i + j)) H2) σ H
def tSub (ta tb : TE) : TE := fun σ H Q => t2I ta tb (fun i j H2 => Q (.int (i - j)) H2) σ H
/-- the left factor below 2^64 -/
def tMul (ta tb : TE) : TE := fun σ H Q => t2I ta tb (fun i j H2 => (-(2 ^ 64) < i ∧ i < 2 ^ 64) ∧ Q (.int (i * j)) H2) σ H
variable {a b : Expr} {ta tb : TE} {pos : Pos}
/-! ### comparisons -/
def PC (X : Cx) (op : CmpOp) (a b : Expr) (t : TE) : Prop :=
  ∀ (pins : List (Addr × Obj)) (s : Shared) (σ : St) (H : Hp) (Q : VK), Inv X pins σ H s → t σ H Q →
    wpAny (model X.prog X.w) X.A (eval a X.env) (fun v s₁ => wpAny (model X.prog X.w) X.A (eval b X.env) (fun u s₂ => wpAny (model X.prog X.w) X.A (compareOp op v u) (EP X pins σ Q) X.xe s₂) X.xe s₁) X.xe s
def tCmp (p : Int → Int → Bool) (ta tb : TE) : TE := fun σ H Q => t2I ta tb (fun i j H2 => Q (.bl (p i j)) H2) σ H
abbrev tLt : TE → TE → TE := tCmp fun i j => decide (i < j)
abbrev tLe : TE → TE → TE := tCmp fun i j => decide (i ≤ j)
abbrev tGt : TE → TE → TE := tCmp fun i j => decide (j < i)
abbrev tGe : TE → TE → TE := tCmp fun i j => decide (j ≤ i)
abbrev tEqI : TE → TE → TE := tCmp fun i j => decide (i = j)
abbrev tNeI : TE → TE → TE := tCmp fun i j => !decide (i = j)
/-- is None -/
def tIsN (ta : TE) : TE := fun σ H Q => ta σ H fun x H1 => Q (.bl (decide (x = .non))) H1
def tNotN (ta : TE) : TE := fun σ H Q => ta σ H fun x H1 => Q (.bl (!decide (x = .non))) H1
/-- a comparison as a value, as a test -/
def tB (t : TE) : TT := fun σ H Q => t σ H fun x H1 => ∃ c, x = .bl c ∧ Q c H1
theorem pt_cmp {op : CmpOp} {t : TE} (h : PC X op a b t) (h1 : behindInMarks op b = false := by first | exact nobehind _ (by decide) (by decide) | rfl) : PT X (.Compare a [op] [b] pos) (tB t) := by
  intro pins s σ H Q I hw
  refine wpAny_isTrue_Compare1 (thn (h pins s σ H _ I hw) fun v s1 h1 => thn h1 fun u s2 h2 => thn h2 fun c s3 ⟨x, H1, I1, r1, q1⟩ => ?_) h1
  obtain ⟨d, rfl, q⟩ := q1
  cases r1
  exact wpAny_truthy_bool ⟨H1, I1, q⟩
/-- an expression whose value is a bool, as a test -/
theorem pt_val {e : Expr} {t : TE} (h : PE X e t) (he : ∀ whole, isTrue e X.env whole = (do let v ← whole; standAt e.pos; holding [v] (truthy v)) := by intro _; rfl) : PT X e (tB t) := by
  intro pins s σ H Q I hw
  refine isTrue_plain (thn (h pins s σ H _ I hw) fun v s1 ⟨x, H1, I1, r1, q1⟩ => ?_) (he _)
  obtain ⟨d, rfl, q⟩ := q1
  cases r1
  exact wpAny_truthy_bool ⟨H1, I1, q⟩

/-! ### and, or, not -/
variable {tA tB' : TT} {rest : List Expr}
def tAnd (t u : TT) : TT := fun σ H Q => t σ H fun c H1 => if c = true then u σ H1 Q else Q false H1
def tOr (t u : TT) : TT := fun σ H Q => t σ H fun c H1 => if c = true then Q true H1 else u σ H1 Q
def tNot (t : TT) : TT := fun σ H Q => t σ H fun c H1 => Q (!c) H1
theorem pw_and1 (ha : PT X a tA) : PW X (.BoolOp .And [a] pos) tA := by
  intro wh pins s σ H Q I h
  refine isTrue_and (thn (ha pins s σ H Q I h) fun c s1 e => ?_)
  cases c with
  | true => exact isTrue_and_nil e
  | false => exact e
theorem pw_or1 (ha : PT X a tA) : PW X (.BoolOp .Or [a] pos) tA := by
  intro wh pins s σ H Q I h
  refine isTrue_or (thn (ha pins s σ H Q I h) fun c s1 e => ?_)
  cases c with
  | false => exact isTrue_or_nil e
  | true => exact e
theorem pw_and (ha : PT X a tA) (hb : PW X (.BoolOp .And (b :: rest) pos) tB') : PW X (.BoolOp .And (a :: b :: rest) pos) (tAnd tA tB') := by
  intro wh pins s σ H Q I h
  refine isTrue_and (thn (ha pins s σ H _ I h) fun c s1 ⟨H1, I1, q1⟩ => ?_)
  cases c with
  | true => exact hb wh pins s1 σ H1 Q I1 q1
  | false => exact ⟨H1, I1, q1⟩
theorem pw_or (ha : PT X a tA) (hb : PW X (.BoolOp .Or (b :: rest) pos) tB') : PW X (.BoolOp .Or (a :: b :: rest) pos) (tOr tA tB') := by
  intro wh pins s σ H Q I h
  refine isTrue_or (thn (ha pins s σ H _ I h) fun c s1 ⟨H1, I1, q1⟩ => ?_)
  cases c with
  | true => exact ⟨H1, I1, q1⟩
  | false => exact hb wh pins s1 σ H1 Q I1 q1
theorem pt_not (ha : PT X a tA) : PT X (.UnaryOp .Not a pos) (tNot tA) := by
  intro pins s σ H Q I h
  exact isTrue_not (ha pins s σ H (fun c H1 => Q (!c) H1) I h)
/-- .. as values (bools) -/
def tAndV (ta tb : TE) : TE := fun σ H Q => ta σ H fun x H1 => ∃ c, x = .bl c ∧ if c = true then tb σ H1 Q else Q (.bl false) H1
def tOrV (ta tb : TE) : TE := fun σ H Q => ta σ H fun x H1 => ∃ c, x = .bl c ∧ if c = true then Q (.bl true) H1 else tb σ H1 Q
def tNotV (ta : TE) : TE := fun σ H Q => ta σ H fun x H1 => ∃ c, x = .bl c ∧ Q (.bl (!c)) H1
theorem pe_one {op} {t : TE} (h : PE X a t) : PE X (.BoolOp op [a] pos) t := fun pins s σ H Q I hw => BoolOp_one (h pins s σ H Q I hw)
theorem pe_and (ha : PE X a ta) (hb : PE X (.BoolOp .And (b :: rest) pos) tb) : PE X (.BoolOp .And (a :: b :: rest) pos) (tAndV ta tb) := by
  intro pins s σ H Q I h
  refine BoolOp_and (thn (ha pins s σ H _ I h) fun v s1 ⟨x, H1, I1, r1, q1⟩ => ?_)
  obtain ⟨c, rfl, q1⟩ := q1
  cases r1
  refine wpAny_truthy_bool ?_
  cases c with
  | true => exact hb pins s1 σ H1 Q I1 q1
  | false => exact ⟨.bl false, H1, I1, rfl, q1⟩
/-- a if t else b -/
def tIf (t : TT) (ta tb : TE) : TE := fun σ H Q => t σ H fun c H1 => if c = true then ta σ H1 Q else tb σ H1 Q
theorem pe_ifExp {c : Expr} (hc : PT X c tA) (ha : PE X a ta) (hb : PE X b tb) : PE X (.IfExp c a b pos) (tIf tA ta tb) := by
  intro pins s σ H Q I h
  refine wpAny_IfExp (thn (hc pins s σ H _ I h) fun d s1 ⟨H1, I1, q1⟩ => ?_)
  cases d with
  | true => exact ha pins s1 σ H1 Q I1 q1
  | false => exact hb pins s1 σ H1 Q I1 q1
end
end L2

namespace L2
open PySem PySem.Spec PyProof.Rows

/-! ### a list, a tuple that is read: tracked, frozen, or an object of the module -/
def SqL (K : PySem.W.Frag) (H : Hp) (a : Addr) (xs : List V) : Prop :=
  Rd H a (.lst xs) ∨
    ∃ (o : Obj) (its : Array Value) (n : Nat), K.lookup a = some o ∧ o.cls = .type "list" ∧ o.dict = none ∧ o.data = .seq its n ∧ its.size ≤ sizeLine ∧ Vals xs its.toList
def SqT (K : PySem.W.Frag) (H : Hp) (a : Addr) (xs : List V) : Prop :=
  Rd H a (.tup xs) ∨
    ∃ (o : Obj) (its : Array Value) (n : Nat), K.lookup a = some o ∧ o.cls = .type "tuple" ∧ o.data = .seq its n ∧ its.size ≤ sizeLine ∧ Vals xs its.toList
def absV : Value → Option V
  | .none => some .non
  | .bool b => some (.bl b)
  | .int i _ => some (.int i)
  | .str x _ => some (.str x)
  | .bytes b _ => some (.byt b)
  | .float b _ => some (.flt b)
  | .ref a => some (.ref a)
  | .type n => some (.ty n)
  | _ => none
theorem RelV.abs {x : V} {u : Value} (r : RelV x u) : absV u = some x := by
  cases x with
  | non => cases r; rfl
  | bl _ => cases r; rfl
  | int _ => obtain ⟨t, rfl⟩ := r; rfl
  | str _ => obtain ⟨t, rfl⟩ := r; rfl
  | byt _ => obtain ⟨t, rfl⟩ := r; rfl
  | flt _ => obtain ⟨t, rfl⟩ := r; rfl
  | ref _ => cases r; rfl
  | ty _ => cases r; rfl
theorem RelV.inj {x y : V} {u : Value} (r : RelV x u) (q : RelV y u) : x = y := Option.some.inj (r.abs.symm.trans q.abs)
theorem Vals.inj : ∀ {xs ys : List V} {us : List Value}, Vals xs us → Vals ys us → xs = ys
  | _, _, _, .nil, .nil => rfl
  | _, _, _, .cons r t, .cons r' t' => by rw [r.inj r', Vals.inj t t']
section
variable {X : Cx} {pins : List (Addr × Obj)} {σ : St} {H : Hp} {s : Shared} {a : Addr} {xs ys : List V}
theorem SqL.of {K : PySem.W.Frag} (h : H a = some (.lst xs)) : SqL K H a xs := .inl (.inl h)
theorem SqT.of {K : PySem.W.Frag} (h : H a = some (.tup xs)) : SqT K H a xs := .inl (.inl h)
theorem Inv.list (I : Inv X pins σ H s) (h : SqL X.K H a xs) : ∃ its : List Value, Vals xs its ∧ PlainL s.heap a its.toArray ∧ xs.length ≤ sizeLine := by
  rcases h with h | ⟨o, its, n, hk, hc, hd, hs, hz, r⟩
  · obtain ⟨z, its, n, r, e⟩ := h.ok I.hok
    exact ⟨its, r, ⟨_, n, e, rfl, rfl, rfl⟩, z⟩
  · refine ⟨its.toList, r, ⟨o, n, I.kIn a o hk, hc, hd, by simpa using hs⟩, ?_⟩
    have e := r.length
    simp only [Array.length_toList] at e
    omega
theorem Inv.tuple (I : Inv X pins σ H s) (h : SqT X.K H a xs) : ∃ its : List Value, Vals xs its ∧ IsTup s.heap a its.toArray ∧ xs.length ≤ sizeLine := by
  rcases h with h | ⟨o, its, n, hk, hc, hs, hz, r⟩
  · obtain ⟨z, its, r, p⟩ := h.ok I.hok
    exact ⟨its, r, p, z⟩
  · refine ⟨its.toList, r, ⟨o, I.kIn a o hk, hc, n, by simpa using hs⟩, ?_⟩
    have e := r.length
    simp only [Array.length_toList] at e
    omega
theorem Inv.list_inj (I : Inv X pins σ H s) (h : SqL X.K H a xs) (h' : SqL X.K H a ys) : xs = ys := by
  obtain ⟨its, r, ⟨o, n, e, _, _, d⟩, _⟩ := I.list h
  obtain ⟨its', r', ⟨o', n', e', _, _, d'⟩, _⟩ := I.list h'
  rw [e] at e'; cases e'
  rw [d] at d'
  injection d' with d1 _
  have : its = its' := by simpa using congrArg Array.toList d1
  subst this
  exact r.inj r'
theorem Inv.tuple_inj (I : Inv X pins σ H s) (h : SqT X.K H a xs) (h' : SqT X.K H a ys) : xs = ys := by
  obtain ⟨its, r, ⟨o, e, _, n, d⟩, _⟩ := I.tuple h
  obtain ⟨its', r', ⟨o', e', _, n', d'⟩, _⟩ := I.tuple h'
  rw [e] at e'; cases e'
  rw [d] at d'
  injection d' with d1 _
  have : its = its' := by simpa using congrArg Array.toList d1
  subst this
  exact r.inj r'
end

/-! ### another wish about exceptions -/
abbrev Cx.wish (X : Cx) (E : Value → Shared → Prop) : Cx := { X with xe := E }
/-- no exception leaves -/
abbrev Cx.nox (X : Cx) : Cx := X.wish fun _ _ => False
theorem Cx.Ok.wish {X : Cx} (ok : X.Ok) (E : Value → Shared → Prop) : (X.wish E).Ok :=
  ⟨ok.mod, ok.kind, ok.glob, ok.blt, ok.above, ok.inj, ok.has, ok.cab, ok.hd, ok.frames, ok.stk, ok.exf, ok.bs, ok.bsz, ok.noex, ok.exfs, ok.funs, ok.frf⟩
theorem Cx.Ok.unwish {X : Cx} {E : Value → Shared → Prop} (ok : (X.wish E).Ok) : X.Ok :=
  ⟨ok.mod, ok.kind, ok.glob, ok.blt, ok.above, ok.inj, ok.has, ok.cab, ok.hd, ok.frames, ok.stk, ok.exf, ok.bs, ok.bsz, ok.noex, ok.exfs, ok.funs, ok.frf⟩
section
variable {X : Cx} {pins : List (Addr × Obj)} {σ : St} {H : Hp} {s : Shared} {E : Value → Shared → Prop}
theorem Inv.wish (I : Inv X pins σ H s) (E : Value → Shared → Prop) : Inv (X.wish E) pins σ H s := ⟨I.ok.wish E, I.os, I.bare, I.base, I.loc, I.cell, I.free, I.freeC, I.pin, I.hok, I.len⟩
theorem Inv.unwish (I : Inv (X.wish E) pins σ H s) : Inv X pins σ H s := ⟨I.ok.unwish, I.os, I.bare, I.base, I.loc, I.cell, I.free, I.freeC, I.pin, I.hok, I.len⟩
theorem SP.unwish {D : Ends} {f : Flow} {s' : Shared} (h : SP (X.wish E) pins D f s') : SP X pins D f s' := by
  cases f with
  | next => obtain ⟨σ', H', I, q⟩ := h; exact ⟨σ', H', I.unwish, q⟩
  | brk => obtain ⟨σ', H', I, q⟩ := h; exact ⟨σ', H', I.unwish, q⟩
  | cont => obtain ⟨σ', H', I, q⟩ := h; exact ⟨σ', H', I.unwish, q⟩
  | ret u => obtain ⟨v, σ', H', I, r, q⟩ := h; exact ⟨v, σ', H', I.unwish, r, q⟩
theorem PSs.nox {st : List Stmt} {t : TS} (h : PSs X.nox st t) : PSs X st t := fun pins s σ H D I hw =>
  wpAny_mono (h pins s σ H D (I.wish _) hw) (fun _ _ q => q.unwish) fun _ _ z => False.elim z
end

/-! ### blocks and small statements -/
section
variable {X : Cx} {st : Stmt} {rest : List Stmt} {t u : TS} {e : Expr} {te : TE} {pos : Pos}
def tNext : TS := fun D σ H => D.nx σ H
def tSeq (t u : TS) : TS := fun D σ H => t { D with nx := u D } σ H
theorem pss_nil : PSs X [] tNext := fun _ _ σ H _ I h => wpAny_execs_nil ⟨σ, H, I, h⟩
theorem pss_cons (h1 : PS X st t) (h2 : PSs X rest u) : PSs X (st :: rest) (tSeq t u) := by
  intro pins s σ H D I h
  refine wpAny_execs_cons (thn (h1 pins s σ H { D with nx := u D } I h) fun f s1 q => ?_)
  cases f with
  | next =>
    obtain ⟨σ', H', I', q⟩ := q
    exact h2 pins s1 σ' H' D I' q
  | ret v => exact q
  | brk => exact q
  | cont => exact q
theorem pss_one (h1 : PS X st t) : PSs X [st] t := by
  intro pins s σ H D I h
  refine wpAny_execs_cons (thn (h1 pins s σ H D I h) fun f s1 q => ?_)
  cases f with
  | next => exact wpAny_execs_nil q
  | ret v => exact q
  | brk => exact q
  | cont => exact q
def tBreak : TS := fun D σ H => D.bk σ H
def tCont : TS := fun D σ H => D.ct σ H
/-- in a def's body nothing is shown -/
theorem Inv.quiet {pins : List (Addr × Obj)} {σ : St} {H : Hp} {s : Shared} (I : Inv X pins σ H s) : interactive X.env = false := by simp [interactive, I.ok.kind]
/-- an expression whose value is dropped -/
def tDrop (te : TE) : TS := fun D σ H => te σ H fun _ H1 => D.nx σ H1
theorem ps_expr (he : PE X e te) (hs : swapsWith e none pos.line X.env = pure false := by rfl) : PS X (.Expr e pos) (tDrop te) := by
  intro pins s σ H D I h
  exact wpAny_Expr_any (thn (he pins s σ H _ I h) fun v s1 ⟨x, H1, I1, r1, q1⟩ => ⟨σ, H1, I1, q1⟩) I.quiet hs
def tRet (te : TE) : TS := fun D σ H => te σ H D.rt
theorem ps_ret (he : PE X e te) : PS X (.Return (some e) pos) (tRet te) := by
  intro pins s σ H D I h
  exact wpAny_Return_some (thn (he pins s σ H _ I h) fun v s1 ⟨x, H1, I1, r1, q1⟩ => ⟨x, σ, H1, I1, r1, q1⟩)
def tRetN : TS := fun D _ H => D.rt .non H
def tIfS (c : TT) (t u : TS) : TS := fun D σ H => c σ H fun b H1 => if b = true then t D σ H1 else u D σ H1
theorem ps_if {c : Expr} {a b : List Stmt} {tc : TT} (hc : PT X c tc) (ha : PSs X a t) (hb : PSs X b u) : PS X (.If c a b pos) (tIfS tc t u) := by
  intro pins s σ H D I h
  refine wpAny_If (thn (hc pins s σ H _ I h) fun d s1 ⟨H1, I1, q1⟩ => ?_)
  cases d with
  | true => exact ha pins s1 σ H1 D I1 q1
  | false => exact hb pins s1 σ H1 D I1 q1
/-- code that the proof never comes to -/
def tNever : TS := fun _ _ _ => False
end

/-! ### targets -/
abbrev TG := V → St → Hp → (St → Hp → Prop) → Prop
abbrev TGs := List V → St → Hp → (St → Hp → Prop) → Prop
def PG (X : Cx) (target : Expr) (t : TG) : Prop :=
  ∀ (pins : List (Addr × Obj)) (s : Shared) (σ : St) (H : Hp) (v : V) (u : Value) (Q : St → Hp → Prop), Inv X pins σ H s → RelV v u → t v σ H Q →
    wpAny (model X.prog X.w) X.A (assign target X.env u) (fun _ s' => ∃ σ' H', Inv X pins σ' H' s' ∧ Q σ' H') X.xe s
/-- several targets, one after another -/
def PGs (X : Cx) (ts : List Expr) (t : TGs) : Prop :=
  ∀ (pins : List (Addr × Obj)) (s : Shared) (σ : St) (H : Hp) (vs : List V) (us : List Value) (Q : St → Hp → Prop), Inv X pins σ H s → Vals vs us → t vs σ H Q →
    wpAny (model X.prog X.w) X.A (assignInOrder ((assignEach ts X.env).map (·.2)) us) (fun _ s' => ∃ σ' H', Inv X pins σ' H' s' ∧ Q σ' H') X.xe s
/-- o[i] = v, by values -/
abbrev TSet := V → V → V → Hp → (Hp → Prop) → Prop
def PSet (X : Cx) (t : TSet) : Prop :=
  ∀ (pins : List (Addr × Obj)) (s : Shared) (σ : St) (H : Hp) (o i v : V) (ov iv u : Value) (Q : Hp → Prop), Inv X pins σ H s → RelV o ov → RelV i iv → RelV v u → t o i v H Q →
    wpAny (model X.prog X.w) X.A (setItem ov iv u) (fun _ s' => ∃ H', Inv X pins σ H' s' ∧ Q H') X.xe s
/-- a op= b, by values -/
abbrev TIp := V → V → Hp → VK → Prop
def PIp (X : Cx) (op : Operator) (t : TIp) : Prop :=
  ∀ (pins : List (Addr × Obj)) (s : Shared) (σ : St) (H : Hp) (x y : V) (v u : Value) (Q : VK), Inv X pins σ H s → RelV x v → RelV y u → t x y H Q →
    wpAny (model X.prog X.w) X.A (inplaceOp op v u) (EP X pins σ Q) X.xe s
section
variable {X : Cx} {pos : Pos}
def gName (i : Nat) : TG := fun v σ H Q => Q (σ.set i (some v)) H
theorem pg_name {i : Nat} {x : Str} (hN : X.N.Nodup) (hi : X.N[i]? = some x) (hx : Loc X.env.scope x) (hf : X.fn x = true ∨ X.env.scope.names.lookup x = some .local := by first | exact .inl rfl | exact .inr rfl | assumption) : PG X (.Name x pos) (gName i) := by
  intro pins s σ H v u Q I r h
  exact wpAny_assign_Name (store_ok I hN hi hx r (fun s' I' => ⟨_, H, I', h⟩) hf)
def gNil : TGs := fun vs σ H Q => vs = [] ∧ Q σ H
def gCons (t : TG) (u : TGs) : TGs := fun vs σ H Q => ∃ v r, vs = v :: r ∧ t v σ H fun σ' H' => u r σ' H' Q
/-- (a, b, ..) = a tuple of that length -/
def gTup (K : PySem.W.Frag) (n : Nat) (t : TGs) : TG := fun v σ H Q => ∃ a xs, v = .ref a ∧ SqT K H a xs ∧ xs.length = n ∧ t xs σ H Q
/-- o[i] = .. -/
def gSub (to ti : TE) (t : TSet) : TG := fun v σ H Q => to σ H fun o H1 => ti σ H1 fun i H2 => t o i v H2 fun H3 => Q σ H3
theorem pg_sub {o i : Expr} {to ti : TE} {t : TSet} (ho : PE X o to) (hi : PE X i ti) (hs : PSet X t)
    (ha : ∀ v, assign (.Subscript o i pos) X.env v = (do
      let ov ← holding [v] (eval o X.env)
      let iv ← holding [v, ov] (eval i X.env)
      standAt pos
      holding [v, ov, iv] (setItem ov iv v)
      release [v, ov, iv] []) := by intro _; rfl) : PG X (.Subscript o i pos) (gSub to ti t) := by
  intro pins s σ H v u Q I r h
  rw [ha]
  refine wpAny_bind (wpAny_holding (thn (ho pins s σ H _ I h) fun ov s1 ⟨x, H1, I1, r1, q1⟩ => ?_))
  refine wpAny_bind (wpAny_holding (thn (hi pins s1 σ H1 _ I1 q1) fun iv s2 ⟨y, H2, I2, r2, q2⟩ => ?_))
  refine wpAny_bind (wpAny_standAt (wpAny_bind (wpAny_holding (thn (hs pins s2 σ H2 x y v ov iv u _ I2 r1 r2 r q2) fun _ s3 ⟨H3, I3, q3⟩ => ?_))))
  exact wpAny_release ⟨σ, H3, I3, q3⟩
/-- target = value -/
def tAsg (te : TE) (g : TG) : TS := fun D σ H => te σ H fun x H1 => g x σ H1 D.nx
theorem ps_asg {tg e : Expr} {te : TE} {g : TG} (he : PE X e te) (hg : PG X tg g) (hs : swapsWithSole [tg] e pos.line X.env = pure false := by rfl) (hw : swappedStores [tg] e X.env = pure none := by rfl)
    (h1 : (assignEach [tg] X.env).map (·.2) = [assign tg X.env] := by rfl) : PS X (.Assign [tg] e pos) (tAsg te g) := by
  intro pins s σ H D I h
  refine wpAny_Assign_stores (thn (he pins s σ H _ I h) fun v s1 ⟨x, H1, I1, r1, q1⟩ => ?_) hs hw
  rw [h1]
  exact thn (hg pins s1 σ H1 x v _ I1 r1 q1) fun _ s2 q => q
/-- name = value -/
theorem ps_set {i : Nat} {x : Str} {e : Expr} {te : TE} {pos' : Pos} (hN : X.N.Nodup) (hi : X.N[i]? = some x) (hx : Loc X.env.scope x) (he : PE X e te) (hs : swapsWith e (some (.Name x pos')) pos.line X.env = pure false := by rfl) (hf : X.fn x = true ∨ X.env.scope.names.lookup x = some .local := by first | exact .inl rfl | exact .inr rfl | assumption) :
    PS X (.Assign [.Name x pos'] e pos) (tAsg te (gName i)) := by
  intro pins s σ H D I h
  refine wpAny_Assign_Name (thn (he pins s σ H _ I h) fun v s1 ⟨y, H1, I1, r1, q1⟩ => ?_) hs
  exact store_ok I1 hN hi hx r1 (fun s2 I2 => ⟨_, H1, I2, q1⟩) hf
/-- a, b = x, y with plain local names: stored from the right; the pair itself is not tracked (the opening rows as in PyProof/Rows/TupAssign.lean:23) -/
def tPar (i j : Nat) (ta : TA) : TS := fun D σ H => ta σ H fun vs H1 => ∃ v w, vs = [v, w] ∧ D.nx ((σ.set i (some v)).set j (some w)) H1
/-- name op= e -/
def tAug (i : Nat) (te : TE) (ti : TIp) : TS := fun D σ H => ∃ x, σ[i]? = some (some x) ∧ te σ H fun y H1 => ti x y H1 fun z H2 => D.nx (σ.set i (some z)) H2
theorem ps_aug {i : Nat} {x : Str} {e : Expr} {te : TE} {op : Operator} {ti : TIp} {pos' : Pos} (hN : X.N.Nodup) (hi : X.N[i]? = some x) (hx : Loc X.env.scope x) (he : PE X e te) (ho : PIp X op ti) (hf : X.fn x = true ∨ X.env.scope.names.lookup x = some .local := by first | exact .inl rfl | exact .inr rfl | assumption) :
    PS X (.AugAssign (.Name x pos') op e pos) (tAug i te ti) := by
  intro pins s σ H D I h
  obtain ⟨v, e1, h⟩ := h
  obtain ⟨m, hn, hl⟩ := I.loc
  have vis : Vis X.env.scope x := by rcases hx with k | k; exact .inl k; exact .inr (.inl k)
  obtain ⟨u, r, l⟩ := hl i x v hi e1 vis
  refine wpAny_AugAssign_Name ?_
  have go : wpAny (model X.prog X.w) X.A (eval e X.env) (fun w s₂ => wpAny (model X.prog X.w) X.A (inplaceOp op u w) (fun r s₃ => wpAny (model X.prog X.w) X.A (storeName X.env x r) (fun _ => SP X pins D .next) X.xe s₃) X.xe s₂) X.xe s := by
    refine thn (he pins s σ H _ I h) fun w s1 ⟨y, H1, I1, r1, q1⟩ => ?_
    refine thn (ho pins s1 σ H1 v y u w _ I1 r r1 q1) fun z s2 ⟨zv, H2, I2, r2, q2⟩ => ?_
    exact store_ok I2 hN hi hx r2 (fun s3 I3 => ⟨_, H2, I3, q2⟩) hf
  rcases l with ⟨hk, hm⟩ | ⟨hk, c, hc, hcell⟩
  · exact wpAny_loadName_local I.ok.kind hk hn hm go
  · rcases hk with hk | hk
    · exact wpAny_loadName_cell I.ok.kind hk hc hcell go
    · rcases hx with k | k
      · have : X.env.scope.names.lookup x = some .free := hk
        rw [k] at this; cases this
      · have : X.env.scope.names.lookup x = some .free := hk
        rw [k] at this; cases this
/-- o[i] op= e -/
def tAugS (to ti te : TE) (tget : V → V → Hp → VK → Prop) (tip : TIp) (tset : TSet) : TS := fun D σ H => to σ H fun o H1 => ti σ H1 fun i H2 => tget o i H2 fun x H3 => te σ H3 fun y H4 => tip x y H4 fun z H5 => tset o i z H5 fun H6 => D.nx σ H6
/-- o[i], by values -/
def PGet (X : Cx) (t : V → V → Hp → VK → Prop) : Prop :=
  ∀ (pins : List (Addr × Obj)) (s : Shared) (σ : St) (H : Hp) (o i : V) (ov iv : Value) (Q : VK), Inv X pins σ H s → RelV o ov → RelV i iv → t o i H Q →
    wpAny (model X.prog X.w) X.A (getItem ov iv) (EP X pins σ Q) X.xe s
/-- ints -/
def ipI (f : Int → Int → Int) : TIp := fun x y H Q => ∃ i j, x = .int i ∧ y = .int j ∧ Q (.int (f i j)) H
theorem ip_add : PIp X .Add (ipI fun i j => i + j) := by
  intro pins s σ H x y v u Q I r1 r2 h
  obtain ⟨i, j, e1, e2, q⟩ := h
  subst e1; subst e2
  obtain ⟨t, rfl⟩ := r1
  obtain ⟨t', rfl⟩ := r2
  exact iadd_int ⟨.int _, H, I.tok _, ⟨_, rfl⟩, q⟩
end

/-! ### while -/
section
variable {X : Cx} {pos : Pos}
/-- the invariant W with its measure -/
def tWhile (c : TT) (tb : TS) : TS := fun D σ H => ∃ W : Nat → St → Hp → Prop, (∃ m, W m σ H) ∧ ∀ m σ H, W m σ H →
  c σ H fun b H1 => if b = true then ∃ N : St → Hp → Prop, (∀ σ' H', N σ' H' → ∃ m', m' < m ∧ W m' σ' H') ∧ tb { D with nx := N, ct := N, bk := D.nx } σ H1 else D.nx σ H1
theorem ps_while {c : Expr} {body : List Stmt} {tc : TT} {tb : TS} (hp : PassesOwn (model X.prog X.w) X.A X.env X.xe) (hc : PT X c tc) (hb : PSs X body tb) : PS X (.While c body [] pos) (tWhile tc tb) := by
  intro pins s σ H D I h
  obtain ⟨W, ⟨m0, w0⟩, turn⟩ := h
  refine wpAny_While (codeAny_whileLoop (fun n s' => ∃ σ' H', Inv X pins σ' H' s' ∧ W n σ' H') ?_ m0 ⟨σ, H, I, w0⟩)
  rintro n s1 ⟨σ1, H1, I1, w1⟩
  refine wpAny_passesOwn hp (thn (hc pins s1 σ1 H1 _ I1 (turn n σ1 H1 w1)) fun b s2 ⟨H2, I2, q2⟩ => ?_)
  cases b with
  | true =>
    obtain ⟨N, hN, q2⟩ := q2
    rw [if_pos rfl]
    refine wpAny_passesOwn hp (thn (hb pins s2 σ1 H2 _ I2 q2) fun f s3 q3 => ?_)
    cases f with
    | next =>
      obtain ⟨σ3, H3, I3, n3⟩ := q3
      obtain ⟨m', hm, w3⟩ := hN σ3 H3 n3
      exact ⟨m', hm, σ3, H3, I3, w3⟩
    | cont =>
      obtain ⟨σ3, H3, I3, n3⟩ := q3
      obtain ⟨m', hm, w3⟩ := hN σ3 H3 n3
      exact ⟨m', hm, σ3, H3, I3, w3⟩
    | brk => exact q3
    | ret v => exact q3
  | false =>
    rw [if_neg Bool.false_ne_true]
    exact wpAny_execs_nil ⟨σ1, H2, I2, q2⟩
end

/-! ### what a loop or a comprehension walks -/
/-- at turn i: it yields x (the heap may grow), or it stops -/
structure It where
  go : Nat → Hp → Prop
  yld : Nat → Hp → V → Hp → Prop
  stop : Nat → Hp → Prop
/-- the iterator's own objects may turn: they are not the frame's, not pinned, younger than the entry (or a comprehension's own) -/
def FpOk (X : Cx) (pins : List (Addr × Obj)) (H : Hp) (b : Addr) : Prop :=
  H b = none ∧ b ≠ X.env.locals ∧ b ∉ X.fs ∧ (b ∈ X.ex ∨ X.s_0.heap.objs.size ≤ b) ∧ (∀ x c, X.env.cells.lookup x = some c → c ≠ b) ∧ ∀ p ∈ X.pn ++ pins, p.1 ≠ b
theorem Inv.fpOk {X : Cx} {pins : List (Addr × Obj)} {σ : St} {H H' : Hp} {s : Shared} {b : Addr} (I : Inv X pins σ H s) (hb : s.heap.objs.size ≤ b) (hn : H' b = none) : FpOk X pins H' b := by
  refine ⟨hn, Nat.ne_of_gt (Nat.lt_of_lt_of_le I.lt hb), I.nofs hb, .inr (Nat.le_trans I.sz hb), fun x c e z => ?_, fun p hp z => ?_⟩
  · obtain ⟨v, q⟩ := I.cell x c e
    exact absurd (Nat.lt_of_lt_of_le q.lt (by rw [z]; exact hb)) (Nat.lt_irrefl _)
  · exact absurd (Nat.lt_of_lt_of_le (Heap.lt_size (I.pin p hp).1) (by rw [z]; exact hb)) (Nat.lt_irrefl _)
structure Turn (P : Program) (w : World) (K : PySem.W.Frag) (tg : Expr) (J : It) (fp : List Addr) (it : Addr) (tn : Nat → Heap → Prop) : Prop where
  mem : it ∈ fp
  obj : ∀ i h, tn i h → ∀ b ∈ fp, ∃ o, h.get? b = some o ∧ ∀ v, o.data ≠ .cell v
  keep : ∀ i h h', tn i h → (∀ b ∈ fp, ∀ o, h.get? b = some o → h'.get? b = some o) → tn i h'
  item : ∀ (X : Cx), X.prog = P → X.w = w → X.K = K → X.calm = true → ∀ (i : Nat) (pins : List (Addr × Obj)) (s : Shared) (σ : St) (H : Hp) (E : Value → Shared → Prop), Inv X pins σ H s → (∀ b ∈ fp, FpOk X pins H b) → tn i s.heap → J.go i H →
    wpAny (model P w) X.A (pyNext (.ref it)) (fun r s1 => ∃ u, r = some u ∧
      wpAny (model P w) X.A (letOwnedTupleGo tg (.ref it) u) (fun _ s2 => ∃ x H', Inv X pins σ H' s2 ∧ RelV x u ∧ J.yld i H x H' ∧ tn (i + 1) s2.heap ∧ ∀ b ∈ fp, H' b = none) E s1) E s
  done : ∀ (X : Cx), X.prog = P → X.w = w → X.K = K → X.calm = true → ∀ (i : Nat) (pins : List (Addr × Obj)) (s : Shared) (σ : St) (H : Hp) (E : Value → Shared → Prop), Inv X pins σ H s → (∀ b ∈ fp, FpOk X pins H b) → tn i s.heap → J.stop i H →
    wpAny (model P w) X.A (pyNext (.ref it)) (fun r s1 => r = none ∧ Inv X pins σ H s1) E s
  self : ∀ (A : Around) (i : Nat) (s : Shared) (Q : Value → Shared → Prop) (E : Value → Shared → Prop), tn i s.heap → Q (.ref it) s → wpAny (model P w) A (pyIter (.ref it)) Q E s
abbrev TI := St → Hp → (It → Hp → Prop) → Prop
/-- an iterator has come -/
def PIE (X : Cx) (pins : List (Addr × Obj)) (σ : St) (tg : Expr) (R : It → Hp → Prop) (itv : Value) (s2 : Shared) : Prop :=
  ∃ (it : Addr) (fp : List Addr) (tn : Nat → Heap → Prop) (J : It) (H' : Hp), itv = .ref it ∧ Inv X pins σ H' s2 ∧ Turn X.prog X.w X.K tg J fp it tn ∧ tn 0 s2.heap ∧ (∀ b ∈ fp, FpOk X pins H' b) ∧ R J H'
def PI (X : Cx) (tg iter : Expr) (wi : TI) : Prop :=
  ∀ (pins : List (Addr × Obj)) (s : Shared) (σ : St) (H : Hp) (R : It → Hp → Prop), Inv X pins σ H s → wi σ H R →
    wpAny (model X.prog X.w) X.A (eval iter X.env) (fun v s1 => wpAny (model X.prog X.w) X.A (pyIter v) (PIE X pins σ tg R) X.xe s1) X.xe s

/-- the step ahead of the store is nothing for an iterator that keeps no tuple -/
theorem go_of {M : Model} {A : Around} {E : Value → Shared → Prop} {s : Shared} {tg : Expr} {it : Addr} {u : Value} {o : Obj} {n : String} {vs : Array Value} {Q : Unit → Shared → Prop} (ho : s.heap.get? it = some o) (hc : o.cls = .type n) (hd : o.data = .fields vs)
    (hn : ["enumerate", "zip", "dict_itemiterator", "dict_reverseitemiterator", "odict_iterator", "itertools.zip_longest", "itertools.pairwise"].contains n = false) (hQ : Q () s) : wpAny M A (letOwnedTupleGo tg (.ref it) u) Q E s := by
  unfold letOwnedTupleGo
  cases tg <;> first
    | exact wpAny_pure hQ
    | (cases u <;> first
        | exact wpAny_pure hQ
        | (refine wpAny_bind (wpAny_load ho ?_)
           rw [hc, hd]
           show wpAny M A (if (["enumerate", "zip", "dict_itemiterator", "dict_reverseitemiterator", "odict_iterator", "itertools.zip_longest", "itertools.pairwise"].contains n && vs[0]? == some (rawInt _)) = true then _ else _) Q E s
           rw [if_neg (by intro h; rw [hn, Bool.false_and] at h; cases h)]
           exact wpAny_pure hQ))

/-- the list at a, as it stands at each turn (a loop may append to it) -/
def Itl (K : PySem.W.Frag) (a : Addr) : It :=
  ⟨fun i H => ∃ xs x, SqL K H a xs ∧ xs[i]? = some x, fun i H x H' => H' = H ∧ ∀ xs, SqL K H a xs → xs[i]? = some x, fun i H => ∃ xs, SqL K H a xs ∧ xs.length ≤ i⟩
def Itt (K : PySem.W.Frag) (a : Addr) : It :=
  ⟨fun i H => ∃ xs x, SqT K H a xs ∧ xs[i]? = some x, fun i H x H' => H' = H ∧ ∀ xs, SqT K H a xs → xs[i]? = some x, fun i H => ∃ xs, SqT K H a xs ∧ xs.length ≤ i⟩
/-- lo, lo + 1, .. (n of them) -/
def Itr (lo : Int) (n : Nat) : It := ⟨fun i _ => i < n, fun i H x H' => H' = H ∧ x = .int (lo + i), fun i _ => n ≤ i⟩
theorem turn_list {P : Program} {w : World} {K : PySem.W.Frag} {tg : Expr} (a it : Addr) : Turn P w K tg (Itl K a) [it] it (fun i h => h.IsListIter it a i) where
  mem := by simp
  obj := fun i h st b hb => by
    have e : b = it := by simpa using hb
    subst e
    obtain ⟨o, e, c, d⟩ := st
    exact ⟨o, e, fun v z => by rw [d] at z; cases z⟩
  keep := fun i h h' st k => st.at fun o e => k it (by simp) o e
  item := by
    intro X hP hw hK hc i pins s σ H E I hf st hg
    subst hP hw hK
    obtain ⟨xs, x, hq, hx⟩ := hg
    obtain ⟨its, rv, p, hz⟩ := I.list hq
    obtain ⟨u, hu, ru⟩ := rv.get hx
    obtain ⟨f0, f1, f2, f3, f4, f5⟩ := hf it (by simp)
    refine wpAny_pyNext_list_item st p.isList (x := u) (by simpa using hu) fun h' st' sb => ?_
    have I1 : Inv X pins σ H { s with heap := h' } := I.turned (t' := s.toks) (fun b o hb e => (sb.2 b hb).trans e) f0 f1 f3 f4 f5
    obtain ⟨o, e, c, d⟩ := id st'
    exact ⟨u, rfl, go_of (s := { s with heap := h' }) e c d (by decide) ⟨x, H, I1, ru, ⟨rfl, fun ys hy => by rw [I.list_inj hy hq]; exact hx⟩, st', fun b hb => (hf b hb).1⟩⟩
  done := by
    intro X hP hw hK hc i pins s σ H E I hf st hg
    subst hP hw hK
    obtain ⟨xs, hq, hx⟩ := hg
    obtain ⟨its, rv, p, hz⟩ := I.list hq
    obtain ⟨f0, f1, f2, f3, f4, f5⟩ := hf it (by simp)
    have hl := rv.length
    exact wpAny_pyNext_list_end (I.ok.hd hc) st p.isList (by simp; omega) fun h' eb => ⟨rfl, I.turned (t' := s.toks) (fun b o hb e => eb b o hb e) f0 f1 f3 f4 f5⟩
  self := fun _ _ _ _ _ st h => wpAny_pyIter_listiter st h
theorem turn_tuple {P : Program} {w : World} {K : PySem.W.Frag} {tg : Expr} (a it : Addr) : Turn P w K tg (Itt K a) [it] it (fun i h => h.IsTupleIter it a i) where
  mem := by simp
  obj := fun i h st b hb => by
    have e : b = it := by simpa using hb
    subst e
    obtain ⟨o, e, c, d⟩ := st
    exact ⟨o, e, fun v z => by rw [d] at z; cases z⟩
  keep := fun i h h' st k => st.at fun o e => k it (by simp) o e
  item := by
    intro X hP hw hK hc i pins s σ H E I hf st hg
    subst hP hw hK
    obtain ⟨xs, x, hq, hx⟩ := hg
    obtain ⟨its, rv, p, hz⟩ := I.tuple hq
    obtain ⟨u, hu, ru⟩ := rv.get hx
    obtain ⟨f0, f1, f2, f3, f4, f5⟩ := hf it (by simp)
    refine wpAny_pyNext_tuple_item st (show s.heap.IsTuple a its.toArray from p) (x := u) (by simpa using hu) fun h' st' sb => ?_
    have I1 : Inv X pins σ H { s with heap := h' } := I.turned (t' := s.toks) (fun b o hb e => (sb.2 b hb).trans e) f0 f1 f3 f4 f5
    obtain ⟨o, e, c, d⟩ := id st'
    exact ⟨u, rfl, go_of (s := { s with heap := h' }) e c d (by decide) ⟨x, H, I1, ru, ⟨rfl, fun ys hy => by rw [I.tuple_inj hy hq]; exact hx⟩, st', fun b hb => (hf b hb).1⟩⟩
  done := by
    intro X hP hw hK hc i pins s σ H E I hf st hg
    subst hP hw hK
    obtain ⟨xs, hq, hx⟩ := hg
    obtain ⟨its, rv, p, hz⟩ := I.tuple hq
    obtain ⟨f0, f1, f2, f3, f4, f5⟩ := hf it (by simp)
    have hl := rv.length
    exact wpAny_pyNext_tuple_end (I.ok.hd hc) st (show s.heap.IsTuple a its.toArray from p) (by simp; omega) fun h' eb => ⟨rfl, I.turned (t' := s.toks) (fun b o hb e => eb b o hb e) f0 f1 f3 f4 f5⟩
  self := fun _ _ _ _ _ st h => wpAny_pyIter_tupleiter st h
end L2

namespace L2
open PySem PySem.Spec PyProof.Rows
section
variable {X : Cx} {tg : Expr}
def iList (K : PySem.W.Frag) (tl : TE) : TI := fun σ H R => tl σ H fun x H1 => ∃ a, x = .ref a ∧ (∃ xs, SqL K H1 a xs) ∧ R (Itl K a) H1
def iTup (K : PySem.W.Frag) (tl : TE) : TI := fun σ H R => tl σ H fun x H1 => ∃ a, x = .ref a ∧ (∃ xs, SqT K H1 a xs) ∧ R (Itt K a) H1
theorem pi_list {l : Expr} {tl : TE} (hl : PE X l tl) : PI X tg l (iList X.K tl) := by
  intro pins s σ H R I h
  refine thn (hl pins s σ H _ I h) fun v s1 ⟨x, H1, I1, r1, q1⟩ => ?_
  obtain ⟨a, e, ⟨xs, hq⟩, q⟩ := q1
  subst e
  cases r1
  obtain ⟨its, rv, p, hz⟩ := I1.list hq
  refine wpAny_pyIter_list p.isList ?_
  refine ⟨s1.heap.objs.size, [s1.heap.objs.size], _, _, H1, rfl, I1.kept (t' := s1.toks) fun b o e => Heap.get?_push_of_some _ e, turn_list a _, ⟨_, Heap.get?_push_size _ rfl, rfl, rfl⟩, fun b hb => ?_, q⟩
  have e : b = s1.heap.objs.size := by simpa using hb
  subst e
  exact I1.fpOk (Nat.le_refl _) (I1.hok.fresh (Nat.le_refl _))
theorem pi_tup {l : Expr} {tl : TE} (hl : PE X l tl) : PI X tg l (iTup X.K tl) := by
  intro pins s σ H R I h
  refine thn (hl pins s σ H _ I h) fun v s1 ⟨x, H1, I1, r1, q1⟩ => ?_
  obtain ⟨a, e, ⟨xs, hq⟩, q⟩ := q1
  subst e
  cases r1
  obtain ⟨its, rv, p, hz⟩ := I1.tuple hq
  refine wpAny_pyIter_tuple (show s1.heap.IsTuple a its.toArray from p) ?_
  refine ⟨s1.heap.objs.size, [s1.heap.objs.size], _, _, H1, rfl, I1.kept (t' := s1.toks) fun b o e => Heap.get?_push_of_some _ e, turn_tuple a _, ⟨_, Heap.get?_push_size _ rfl, rfl, rfl⟩, fun b hb => ?_, q⟩
  have e : b = s1.heap.objs.size := by simpa using hb
  subst e
  exact I1.fpOk (Nat.le_refl _) (I1.hok.fresh (Nat.le_refl _))
def iRng1 (ta : TA) : TI := fun σ H R => ta σ H fun vs H1 => ∃ j : Int, vs = [.int j] ∧ -(2 ^ 62) ≤ j ∧ j < 2 ^ 62 ∧ R (Itr 0 j.toNat) H1
def iRng2 (ta : TA) : TI := fun σ H R => ta σ H fun vs H1 => ∃ i j : Int, vs = [.int i, .int j] ∧ (-(2 ^ 62) ≤ i ∧ i < 2 ^ 62 ∧ -(2 ^ 62) ≤ j ∧ j < 2 ^ 62) ∧ R (Itr i (j - i).toNat) H1
/-! ### for -/
/-- W: the invariant by the turn and a measure; N: what the body is to reach -/
def tFor (wi : TI) (g : TG) (tb : TS) : TS := fun D σ H => wi σ H fun J H1 => ∃ W : Nat → Nat → St → Hp → Prop, (∃ m, W 0 m σ H1) ∧ ∀ i m σ H, W i m σ H →
  (J.stop i H ∧ D.nx σ H) ∨ (J.go i H ∧ ∃ N : St → Hp → Prop, (∀ σ' H', N σ' H' → ∃ m', m' < m ∧ W (i + 1) m' σ' H') ∧ ∀ x H', J.yld i H x H' → g x σ H' fun σ2 H2 => tb { D with nx := N, ct := N, bk := D.nx } σ2 H2)
/-- the records at fp as they stand -/
def pinsAt (fp : List Addr) (h : Heap) : List (Addr × Obj) := fp.filterMap fun b => (h.get? b).map fun o => (b, o)
theorem mem_pinsAt {fp : List Addr} {h : Heap} {b : Addr} {o : Obj} (hb : b ∈ fp) (e : h.get? b = some o) : (b, o) ∈ pinsAt fp h := List.mem_filterMap.mpr ⟨b, hb, by rw [e]; rfl⟩
theorem of_pinsAt {fp : List Addr} {h : Heap} {p : Addr × Obj} (hp : p ∈ pinsAt fp h) : p.1 ∈ fp ∧ h.get? p.1 = some p.2 := by
  obtain ⟨b, hb, e⟩ := List.mem_filterMap.mp hp
  cases q : h.get? b with
  | none => rw [q] at e; cases e
  | some o =>
    rw [q] at e
    have e' : (b, o) = p := Option.some.inj e
    subst e'
    exact ⟨hb, q⟩
theorem Inv.pinned {pins : List (Addr × Obj)} {σ : St} {H : Hp} {s : Shared} {fp : List Addr} (I : Inv X pins σ H s) (hf : ∀ b ∈ fp, FpOk X pins H b) (ho : ∀ b ∈ fp, ∃ o, s.heap.get? b = some o ∧ ∀ v, o.data ≠ .cell v) : Inv X (pins ++ pinsAt fp s.heap) σ H s :=
  I.pins_of fun p hp => (List.mem_append.mp hp).elim (fun z => I.pin p (List.mem_append_right _ z)) fun z => by
    obtain ⟨hb, e⟩ := of_pinsAt z
    obtain ⟨f0, f1, f2, _⟩ := hf p.1 hb
    obtain ⟨o, e', d⟩ := ho p.1 hb
    rw [e] at e'; cases e'
    exact ⟨e, f0, f1, f2, d⟩
theorem Inv.unpinned {pins pl : List (Addr × Obj)} {σ : St} {H : Hp} {s : Shared} (I : Inv X (pins ++ pl) σ H s) : Inv X pins σ H s := I.pins_of fun p hp => I.pin p (List.mem_append_right _ (List.mem_append_left _ hp))
theorem ps_for {iter : Expr} {body : List Stmt} {wi : TI} {g : TG} {tb : TS} {pos : Pos} (hp : PassesOwn (model X.prog X.w) X.A X.env X.xe) (hc : X.calm = true) (hi : PI X tg iter wi) (hg : PG X tg g) (hb : PSs X body tb)
    (hs : ∀ x, foldedSetIterable iter X.env x = pure x := by intro _; rfl) : PS X (.For tg iter body [] pos) (tFor wi g tb) := by
  intro pins s σ H D I h
  refine wpAny_For (thn (hi pins s σ H _ I h) fun v s1 h1 => thn h1 fun itv s2 h2 => ?_) hs
  obtain ⟨it, fp, tn, J, H2, e, I2, T, st2, f2, W, ⟨m0, w0⟩, turn⟩ := h2
  subst e
  -- what stays true of the iterator's objects through the loop
  have stat : ∀ {H' : Hp}, (∀ b ∈ fp, H' b = none) → ∀ b ∈ fp, FpOk X pins H' b := fun hn b hb => ⟨hn b hb, (f2 b hb).2⟩
  refine codeAny_forLoop_any (fun n s' => ∃ i σ' H', Inv X pins σ' H' s' ∧ tn i s'.heap ∧ (∀ b ∈ fp, H' b = none) ∧ W i n σ' H') ?_ m0 ⟨0, σ, H2, I2, st2, fun b hb => (f2 b hb).1, w0⟩
  rintro n s3 ⟨i, σ3, H3, I3, st3, fr3, w3⟩
  rcases turn i n σ3 H3 w3 with ⟨stop, qn⟩ | ⟨go, N, hN, step⟩
  · refine wpAny_passesOwn hp (thn (T.done X rfl rfl rfl hc i pins s3 σ3 H3 X.xe I3 (stat fr3) st3 stop) fun r s4 ⟨hr, I4⟩ => ?_)
    subst hr
    exact wpAny_execs_nil ⟨σ3, H3, I4, qn⟩
  · refine wpAny_passesOwn hp (thn (T.item X rfl rfl rfl hc i pins s3 σ3 H3 X.xe I3 (stat fr3) st3 go) fun r s4 ⟨u, hr, h4⟩ => ?_)
    subst hr
    refine wpAny_passesOwn hp (thn h4 fun _ s5 ⟨x, H5, I5, r5, y5, st5, fr5⟩ => ?_)
    have I5' := I5.pinned (stat fr5) (T.obj _ _ st5)
    refine wpAny_passesOwn hp (thn (hg _ s5 σ3 H5 x u _ I5' r5 (step x H5 y5)) fun _ s6 ⟨σ6, H6, I6, q6⟩ => ?_)
    refine wpAny_passesOwn hp (thn (hb _ s6 σ6 H6 _ I6 q6) fun f s7 q7 => ?_)
    have again : ∀ {σ7 : St} {H7 : Hp}, Inv X (pins ++ pinsAt fp s5.heap) σ7 H7 s7 → N σ7 H7 → ∃ m, m < n ∧ ∃ i σ' H', Inv X pins σ' H' s7 ∧ tn i s7.heap ∧ (∀ b ∈ fp, H' b = none) ∧ W i m σ' H' := fun {σ7 H7} I7 n7 => by
      obtain ⟨m', hm, w7⟩ := hN σ7 H7 n7
      refine ⟨m', hm, i + 1, σ7, H7, I7.unpinned, T.keep _ _ _ st5 fun b hb o e => (I7.pin (b, o) (List.mem_append_right _ (List.mem_append_right _ (mem_pinsAt hb e)))).1, fun b hb => ?_, w7⟩
      obtain ⟨o, e, d⟩ := T.obj _ _ st5 b hb
      exact (I7.pin (b, o) (List.mem_append_right _ (List.mem_append_right _ (mem_pinsAt hb e)))).2.1
    cases f with
    | next => obtain ⟨σ7, H7, I7, n7⟩ := q7; exact again I7 n7
    | cont => obtain ⟨σ7, H7, I7, n7⟩ := q7; exact again I7 n7
    | brk => obtain ⟨σ7, H7, I7, q7⟩ := q7; exact ⟨σ7, H7, I7.unpinned, q7⟩
    | ret v => obtain ⟨x7, σ7, H7, I7, r7, q7⟩ := q7; exact ⟨x7, σ7, H7, I7.unpinned, r7, q7⟩
end

/-! ### the forms one uses -/
/-- over a list that the body leaves as it is -/
theorem for_list {K : PySem.W.Frag} {a : Addr} {xs : List V} {g : TG} {tb : TS} {D : Ends} {σ : St} {H : Hp} (Pv : Nat → St → Hp → Prop) (h0 : Pv 0 σ H) (hl : ∀ i σ H, i ≤ xs.length → Pv i σ H → SqL K H a xs)
    (hs : ∀ i x σ H, xs[i]? = some x → Pv i σ H → g x σ H fun σ2 H2 => tb { D with nx := Pv (i + 1), ct := Pv (i + 1), bk := D.nx } σ2 H2) (hd : ∀ σ H, Pv xs.length σ H → D.nx σ H) :
    ∃ W : Nat → Nat → St → Hp → Prop, (∃ m, W 0 m σ H) ∧ ∀ i m σ H, W i m σ H →
      ((Itl K a).stop i H ∧ D.nx σ H) ∨ ((Itl K a).go i H ∧ ∃ N : St → Hp → Prop, (∀ σ' H', N σ' H' → ∃ m', m' < m ∧ W (i + 1) m' σ' H') ∧ ∀ x H', (Itl K a).yld i H x H' → g x σ H' fun σ2 H2 => tb { D with nx := N, ct := N, bk := D.nx } σ2 H2) := by
  refine ⟨fun i m σ H => m = xs.length - i ∧ i ≤ xs.length ∧ Pv i σ H, ⟨xs.length, by simp, Nat.zero_le _, h0⟩, ?_⟩
  rintro i m σ H ⟨rfl, hi, p⟩
  have q := hl i σ H hi p
  by_cases hlt : i < xs.length
  · refine .inr ⟨⟨xs, xs[i], q, by simp [hlt]⟩, Pv (i + 1), fun σ' H' p' => ⟨xs.length - (i + 1), by omega, rfl, hlt, p'⟩, fun x H' y => ?_⟩
    obtain ⟨e, y⟩ := y
    subst e
    exact hs i x σ _ (y xs q) p
  · have e : i = xs.length := by omega
    subst e
    exact .inl ⟨⟨xs, q, Nat.le_refl _⟩, hd σ H p⟩
theorem for_tup {K : PySem.W.Frag} {a : Addr} {xs : List V} {g : TG} {tb : TS} {D : Ends} {σ : St} {H : Hp} (Pv : Nat → St → Hp → Prop) (h0 : Pv 0 σ H) (hl : ∀ i σ H, i ≤ xs.length → Pv i σ H → SqT K H a xs)
    (hs : ∀ i x σ H, xs[i]? = some x → Pv i σ H → g x σ H fun σ2 H2 => tb { D with nx := Pv (i + 1), ct := Pv (i + 1), bk := D.nx } σ2 H2) (hd : ∀ σ H, Pv xs.length σ H → D.nx σ H) :
    ∃ W : Nat → Nat → St → Hp → Prop, (∃ m, W 0 m σ H) ∧ ∀ i m σ H, W i m σ H →
      ((Itt K a).stop i H ∧ D.nx σ H) ∨ ((Itt K a).go i H ∧ ∃ N : St → Hp → Prop, (∀ σ' H', N σ' H' → ∃ m', m' < m ∧ W (i + 1) m' σ' H') ∧ ∀ x H', (Itt K a).yld i H x H' → g x σ H' fun σ2 H2 => tb { D with nx := N, ct := N, bk := D.nx } σ2 H2) := by
  refine ⟨fun i m σ H => m = xs.length - i ∧ i ≤ xs.length ∧ Pv i σ H, ⟨xs.length, by simp, Nat.zero_le _, h0⟩, ?_⟩
  rintro i m σ H ⟨rfl, hi, p⟩
  have q := hl i σ H hi p
  by_cases hlt : i < xs.length
  · refine .inr ⟨⟨xs, xs[i], q, by simp [hlt]⟩, Pv (i + 1), fun σ' H' p' => ⟨xs.length - (i + 1), by omega, rfl, hlt, p'⟩, fun x H' y => ?_⟩
    obtain ⟨e, y⟩ := y
    subst e
    exact hs i x σ _ (y xs q) p
  · have e : i = xs.length := by omega
    subst e
    exact .inl ⟨⟨xs, q, Nat.le_refl _⟩, hd σ H p⟩
end L2

namespace L2
open PySem PySem.Spec PyProof.Rows

abbrev R2 := V → V → Hp → VK → Prop
/-- a two-place operation on values: f is binaryOp op, inplaceOp op or compareOp op -/
def OpR (X : Cx) (f : Value → Value → Sem Value) (r : R2) : Prop :=
  ∀ (pins : List (Addr × Obj)) (s : Shared) (σ : St) (H : Hp) (x y : V) (v u : Value) (Q : VK), Inv X pins σ H s → RelV x v → RelV y u → r x y H Q →
    wpAny (model X.prog X.w) X.A (f v u) (EP X pins σ Q) X.xe s
/-- a one-place operation -/
def UnR (X : Cx) (f : Value → Sem Value) (r : V → Hp → VK → Prop) : Prop :=
  ∀ (pins : List (Addr × Obj)) (s : Shared) (σ : St) (H : Hp) (x : V) (v : Value) (Q : VK), Inv X pins σ H s → RelV x v → r x H Q →
    wpAny (model X.prog X.w) X.A (f v) (EP X pins σ Q) X.xe s
/-- a call of a value that is known (a builtin, a type) with values -/
def CallR (X : Cx) (f : Value) (r : List V → Hp → VK → Prop) : Prop :=
  ∀ (pins : List (Addr × Obj)) (s : Shared) (σ : St) (H : Hp) (xs : List V) (us : List Value) (Q : VK), Inv X pins σ H s → Vals xs us → r xs H Q →
    wpAny (model X.prog X.w) X.A (call f us) (EP X pins σ Q) X.xe s
/-- a value's truth -/
def TruR (X : Cx) (r : V → Hp → (Bool → Hp → Prop) → Prop) : Prop :=
  ∀ (pins : List (Addr × Obj)) (s : Shared) (σ : St) (H : Hp) (x : V) (v : Value) (Q : Bool → Hp → Prop), Inv X pins σ H s → RelV x v → r x H Q →
    wpAny (model X.prog X.w) X.A (truthy v) (TP X pins σ Q) X.xe s

def tOp (r : R2) (ta tb : TE) : TE := fun σ H Q => ta σ H fun x H1 => tb σ H1 fun y H2 => r x y H2 Q
def tUn (r : V → Hp → VK → Prop) (ta : TE) : TE := fun σ H Q => ta σ H fun x H1 => r x H1 Q
/-- ints in, under C, and a value out -/
def rI (C : Int → Int → Prop) (g : Int → Int → V) : R2 := fun x y H Q => ∃ i j, x = .int i ∧ y = .int j ∧ C i j ∧ Q (g i j) H
def rI0 (g : Int → Int → V) : R2 := fun x y H Q => ∃ i j, x = .int i ∧ y = .int j ∧ Q (g i j) H
def rU (g : Int → V) : V → Hp → VK → Prop := fun x H Q => ∃ i, x = .int i ∧ Q (g i) H

section
variable {X : Cx} {a b c : Expr} {ta tb tc : TE} {pos : Pos}

theorem binT (ha : PE X a ta) (hb : PE X b tb) {pins : List (Addr × Obj)} {s : Shared} {σ : St} {H : Hp} {R : V → V → Hp → Prop} (I : Inv X pins σ H s)
    (h : ta σ H fun x H1 => tb σ H1 fun y H2 => R x y H2) {Q : Value → Shared → Prop} {f : Value → Value → Sem Value}
    (hf : ∀ v u s2 x y H2, Inv X pins σ H2 s2 → RelV x v → RelV y u → R x y H2 → wpAny (model X.prog X.w) X.A (f v u) Q X.xe s2) :
    wpAny (model X.prog X.w) X.A (eval a X.env) (fun v s₁ => wpAny (model X.prog X.w) X.A (eval b X.env) (fun u s₂ => wpAny (model X.prog X.w) X.A (f v u) Q X.xe s₂) X.xe s₁) X.xe s := by
  refine thn (ha pins s σ H _ I h) fun v s1 ⟨x, H1, I1, r1, q1⟩ => ?_
  refine thn (hb pins s1 σ H1 _ I1 q1) fun u s2 ⟨y, H2, I2, r2, q2⟩ => ?_
  exact hf v u s2 x y H2 I2 r1 r2 q2

theorem pe_op {op : Operator} {r : R2} (ho : OpR X (binaryOp op) r) (ha : PE X a ta) (hb : PE X b tb) : PE X (.BinOp a op b pos) (tOp r ta tb) := by
  intro pins s σ H Q I h
  exact wpAny_BinOp (binT ha hb I h fun v u s2 x y H2 I2 rx ry q => ho pins s2 σ H2 x y v u Q I2 rx ry q)
/-! ### ints -/
theorem opI {f : Value → Value → Sem Value} {C : Int → Int → Prop} {g : Int → Int → Int}
    (rule : ∀ (i j : Int) (t u : Tok) (s : Shared) (Q : Value → Shared → Prop) (E : Value → Shared → Prop), C i j → Q (.int (g i j) s.toks) { s with toks := s.toks + 1 } → wpAny (model X.prog X.w) X.A (f (.int i t) (.int j u)) Q E s) :
    OpR X f (rI C fun i j => .int (g i j)) := by
  intro pins s σ H x y v u Q I rx ry h
  obtain ⟨i, j, rfl, rfl, hc, q⟩ := h
  obtain ⟨t, rfl⟩ := rx
  obtain ⟨t', rfl⟩ := ry
  exact rule i j t t' s _ _ hc ⟨.int (g i j), H, I.tok _, ⟨_, rfl⟩, q⟩
theorem opI0 {f : Value → Value → Sem Value} {g : Int → Int → Int}
    (rule : ∀ (i j : Int) (t u : Tok) (s : Shared) (Q : Value → Shared → Prop) (E : Value → Shared → Prop), Q (.int (g i j) s.toks) { s with toks := s.toks + 1 } → wpAny (model X.prog X.w) X.A (f (.int i t) (.int j u)) Q E s) :
    OpR X f (rI0 fun i j => .int (g i j)) := by
  intro pins s σ H x y v u Q I rx ry h
  obtain ⟨i, j, rfl, rfl, q⟩ := h
  obtain ⟨t, rfl⟩ := rx
  obtain ⟨t', rfl⟩ := ry
  exact rule i j t t' s _ _ ⟨.int (g i j), H, I.tok _, ⟨_, rfl⟩, q⟩
theorem opB0 {f : Value → Value → Sem Value} {g : Int → Int → Bool}
    (rule : ∀ (i j : Int) (t u : Tok) (s : Shared) (Q : Value → Shared → Prop) (E : Value → Shared → Prop), Q (.bool (g i j)) s → wpAny (model X.prog X.w) X.A (f (.int i t) (.int j u)) Q E s) :
    OpR X f (rI0 fun i j => .bl (g i j)) := by
  intro pins s σ H x y v u Q I rx ry h
  obtain ⟨i, j, rfl, rfl, q⟩ := h
  obtain ⟨t, rfl⟩ := rx
  obtain ⟨t', rfl⟩ := ry
  exact rule i j t t' s _ _ ⟨.bl (g i j), H, I, rfl, q⟩

def CDiv (i j : Int) : Prop := 0 < j ∧ j < 1073741824
def CDivN (i j : Int) : Prop := j ≠ 0 ∧ j.natAbs < 1073741824
def CPow (i j : Int) : Prop := 0 ≤ j ∧ j ≤ 1000000 ∧ i.natAbs < 2 ^ 64
def CMul (i j : Int) : Prop := (-(2 ^ 64) < i ∧ i < 2 ^ 64) ∨ (-(2 ^ 64) < j ∧ j < 2 ^ 64)
theorem op_add : OpR X (binaryOp .Add) (rI0 fun i j => .int (i + j)) := opI0 fun _ _ _ _ _ _ _ q => add_int q
theorem op_sub : OpR X (binaryOp .Sub) (rI0 fun i j => .int (i - j)) := opI0 fun _ _ _ _ _ _ _ q => sub_int q
/-- % by a positive divisor of any size -/
theorem op_mod : OpR X (binaryOp .Mod) (rI (fun _ j => 0 < j) fun i j => .int (i % j)) := opI fun i j _ _ _ _ _ hc q => by
  have h1 : (0 : Int) < j := hc
  exact mod_int' (by omega) (by rw [Int.fmod_eq_emod_of_nonneg i (by omega)]; exact q)
/-! ### bools among ints: n += (a < b) -/
end

/-! ### comparisons -/
/-- the scalars that == tells apart as data does -/
def scal : V → V → Bool
  | .non, .non => true | .non, .int _ => true | .int _, .non => true | .non, .bl _ => true | .bl _, .non => true | .non, .str _ => true | .str _, .non => true
  | .int _, .int _ => true | .bl _, .bl _ => true | .str _, .str _ => true | .byt _, .byt _ => true
  | .int _, .str _ => true | .str _, .int _ => true | .bl _, .str _ => true | .str _, .bl _ => true
  | _, _ => false
def rEq : R2 := fun x y H Q => scal x y = true ∧ Q (.bl (decide (x = y))) H
def rNe : R2 := fun x y H Q => scal x y = true ∧ Q (.bl (!decide (x = y))) H

theorem dec_int {i j : Int} : decide (V.int i = V.int j) = (i == j) := by
  rw [Bool.eq_iff_iff]
  simp
theorem dec_bl {i j : Bool} : decide (V.bl i = V.bl j) = (i == j) := by
  rw [Bool.eq_iff_iff]
  simp
theorem dec_str {i j : Str} : decide (V.str i = V.str j) = (i == j) := by
  rw [Bool.eq_iff_iff]
  simp
theorem dec_byt {i j : Array UInt8} : decide (V.byt i = V.byt j) = (i.toList == j.toList) := by
  rw [Bool.eq_iff_iff]
  cases i
  cases j
  simp

section
variable {X : Cx} {a b c : Expr} {ta tb tc : TE} {pos : Pos}
theorem fin_bl {pins : List (Addr × Obj)} {σ : St} {H : Hp} {s : Shared} {Q : VK} {k k' : Bool} (I : Inv X pins σ H s) (q : Q (.bl k) H) (e : k = k') : EP X pins σ Q (.bool k') s := by
  subst e
  exact ⟨.bl k, H, I, rfl, q⟩
theorem op_eq : OpR X (compareOp .Eq) rEq := by
  intro pins s σ H x y v u Q I rx ry h
  obtain ⟨hs, q⟩ := h
  cases x with
  | non =>
    cases rx
    cases y with
    | non => cases ry; exact PySem.EqNone.eq_none_none (fin_bl I q (by simp))
    | bl j => cases ry; exact PySem.EqNone.eq_none_bool (fin_bl I q (by simp))
    | int j => obtain ⟨t', rfl⟩ := ry; exact PySem.EqNone.eq_none_int (fin_bl I q (by simp))
    | str j => obtain ⟨t', rfl⟩ := ry; exact PySem.EqNone.eq_none_str (fin_bl I q (by simp))
    | _ => exact absurd (show false = true from hs) Bool.false_ne_true
  | bl i =>
    cases rx
    cases y with
    | non => cases ry; exact PySem.EqNone.eq_bool_none (fin_bl I q (by simp))
    | bl j => cases ry; exact eq_bool (fin_bl I q dec_bl)
    | str j => obtain ⟨t', rfl⟩ := ry; exact PySem.EqMixed.eq_bool_str (fin_bl I q (by simp))
    | _ => exact absurd (show false = true from hs) Bool.false_ne_true
  | int i =>
    obtain ⟨t, rfl⟩ := rx
    cases y with
    | non => cases ry; exact PySem.EqNone.eq_int_none (fin_bl I q (by simp))
    | int j => obtain ⟨t', rfl⟩ := ry; exact eq_int (fin_bl I q dec_int)
    | str j => obtain ⟨t', rfl⟩ := ry; exact PySem.EqMixed.eq_int_str (fin_bl I q (by simp))
    | _ => exact absurd (show false = true from hs) Bool.false_ne_true
  | str i =>
    obtain ⟨t, rfl⟩ := rx
    cases y with
    | non => cases ry; exact PySem.EqNone.eq_str_none (fin_bl I q (by simp))
    | bl j => cases ry; exact PySem.EqMixed.eq_str_bool (fin_bl I q (by simp))
    | int j => obtain ⟨t', rfl⟩ := ry; exact PySem.EqMixed.eq_str_int (fin_bl I q (by simp))
    | str j => obtain ⟨t', rfl⟩ := ry; exact eq_str (fin_bl I q dec_str)
    | _ => exact absurd (show false = true from hs) Bool.false_ne_true
  | byt i =>
    obtain ⟨t, rfl⟩ := rx
    cases y with
    | byt j => obtain ⟨t', rfl⟩ := ry; exact PySem.W.eq_bytes (fin_bl I q dec_byt)
    | _ => exact absurd (show false = true from hs) Bool.false_ne_true
  | _ => cases y <;> exact absurd (show false = true from hs) Bool.false_ne_true
theorem op_ne : OpR X (compareOp .NotEq) rNe := by
  intro pins s σ H x y v u Q I rx ry h
  obtain ⟨hs, q⟩ := h
  cases x with
  | non =>
    cases rx
    cases y with
    | non => cases ry; exact PySem.EqNone.ne_none_none (fin_bl I q (by simp))
    | bl j => cases ry; exact PySem.EqNone.ne_none_bool (fin_bl I q (by simp))
    | int j => obtain ⟨t', rfl⟩ := ry; exact PySem.EqNone.ne_none_int (fin_bl I q (by simp))
    | str j => obtain ⟨t', rfl⟩ := ry; exact PySem.EqNone.ne_none_str (fin_bl I q (by simp))
    | _ => exact absurd (show false = true from hs) Bool.false_ne_true
  | bl i =>
    cases rx
    cases y with
    | non => cases ry; exact PySem.EqNone.ne_bool_none (fin_bl I q (by simp))
    | bl j => cases ry; exact ne_bool (fin_bl I q (congrArg not dec_bl))
    | str j => obtain ⟨t', rfl⟩ := ry; exact PySem.EqMixed.ne_bool_str (fin_bl I q (by simp))
    | _ => exact absurd (show false = true from hs) Bool.false_ne_true
  | int i =>
    obtain ⟨t, rfl⟩ := rx
    cases y with
    | non => cases ry; exact PySem.EqNone.ne_int_none (fin_bl I q (by simp))
    | int j => obtain ⟨t', rfl⟩ := ry; exact ne_int (fin_bl I q (congrArg not dec_int))
    | str j => obtain ⟨t', rfl⟩ := ry; exact PySem.EqMixed.ne_int_str (fin_bl I q (by simp))
    | _ => exact absurd (show false = true from hs) Bool.false_ne_true
  | str i =>
    obtain ⟨t, rfl⟩ := rx
    cases y with
    | non => cases ry; exact PySem.EqNone.ne_str_none (fin_bl I q (by simp))
    | bl j => cases ry; exact PySem.EqMixed.ne_str_bool (fin_bl I q (by simp))
    | int j => obtain ⟨t', rfl⟩ := ry; exact PySem.EqMixed.ne_str_int (fin_bl I q (by simp))
    | str j => obtain ⟨t', rfl⟩ := ry; exact ne_str (fin_bl I q (congrArg not dec_str))
    | _ => exact absurd (show false = true from hs) Bool.false_ne_true
  | byt i =>
    obtain ⟨t, rfl⟩ := rx
    cases y with
    | byt j => obtain ⟨t', rfl⟩ := ry; exact PySem.W.ne_bytes (fin_bl I q (congrArg not dec_byt))
    | _ => exact absurd (show false = true from hs) Bool.false_ne_true
  | _ => cases y <;> exact absurd (show false = true from hs) Bool.false_ne_true

theorem op_lt : OpR X (compareOp .Lt) (rI0 fun i j => .bl (decide (i < j))) := opB0 fun _ _ _ _ _ _ _ q => lt_int q
theorem op_le : OpR X (compareOp .LtE) (rI0 fun i j => .bl (decide (i ≤ j))) := opB0 fun _ _ _ _ _ _ _ q => le_int q
/-- is, is not of two objects that are tracked lists or instances -/
def isObj : HO → Bool
  | .lst _ => true
  | .ins _ _ _ => true
  | _ => false
theorem nomark (b : Expr) {op : CmpOp} (h : op ≠ .In := by decide) (h2 : op ≠ .NotIn := by decide) : behindInMarks op b = false := by
  have e1 : (op == CmpOp.In) = false := by cases op <;> first | rfl | exact absurd rfl h
  have e2 : (op == CmpOp.NotIn) = false := by cases op <;> first | rfl | exact absurd rfl h2
  cases b <;> simp [behindInMarks, e1, e2]
/-- a comparison as a value; hm: nomark b, or (for in, not in) by with_unfolding_all rfl -/
theorem pe_cmpR {op : CmpOp} {r : R2} (ho : OpR X (compareOp op) r) (ha : PE X a ta) (hb : PE X b tb) (hm : behindInMarks op b = false) : PE X (.Compare a [op] [b] pos) (tOp r ta tb) := by
  intro pins s σ H Q I h
  exact wpAny_Compare1 (binT ha hb I h fun v u s2 x y H2 I2 rx ry q => ho pins s2 σ H2 x y v u Q I2 rx ry q) hm
/-- a reading of a value as a test -/
def tTest (t : TE) : TT := fun σ H Q => t σ H fun x H' => ∃ k, x = .bl k ∧ Q k H'
theorem pt_cmpR {op : CmpOp} {r : R2} (ho : OpR X (compareOp op) r) (ha : PE X a ta) (hb : PE X b tb) (hm : behindInMarks op b = false) : PT X (.Compare a [op] [b] pos) (tTest (tOp r ta tb)) := by
  intro pins s σ H Q I h
  refine wpAny_isTrue_Compare1 (thn (ha pins s σ H _ I h) fun v s1 ⟨x, H1, I1, r1, q1⟩ => thn (hb pins s1 σ H1 _ I1 q1) fun u s2 ⟨y, H2, I2, r2, q2⟩ =>
    thn (ho pins s2 σ H2 x y v u _ I2 r1 r2 q2) fun c s3 ⟨z, H3, I3, r3, k, e, q3⟩ => ?_) hm
  subst e
  cases r3
  exact wpAny_truthy_bool ⟨H3, I3, q3⟩
/-- a op1 b op2 c -/
def tChain (r r' : R2) (ta tb tc : TE) : TE := fun σ H Q => ta σ H fun x H1 => tb σ H1 fun y H2 => r x y H2 fun z H3 => ∃ k, z = .bl k ∧
  (if k = true then tc σ H3 fun w' H4 => r' y w' H4 Q else Q (.bl false) H3)
theorem pe_chain {op op' : CmpOp} {r r' : R2} (ho : OpR X (compareOp op) r) (ho' : OpR X (compareOp op') r') (ha : PE X a ta) (hb : PE X b tb) (hc : PE X c tc)
    (hm : lastMarks [op, op'] [b, c] = false := by with_unfolding_all rfl) : PE X (.Compare a [op, op'] [b, c] pos) (tChain r r' ta tb tc) := by
  intro pins s σ H Q I h
  refine Compare_chain (thn (ha pins s σ H _ I h) fun v s1 ⟨x, H1, I1, r1, q1⟩ => chain_link (thn (hb pins s1 σ H1 _ I1 q1) fun u s2 ⟨y, H2, I2, r2, q2⟩ =>
    thn (ho pins s2 σ H2 x y v u _ I2 r1 r2 q2) fun d s3 ⟨z, H3, I3, r3, k, e, q3⟩ => ?_)) hm
  subst e
  cases r3
  refine wpAny_truthy_bool ?_
  cases k with
  | false => exact ite_ff ⟨.bl false, H3, I3, rfl, q3⟩
  | true => exact ite_tt (chain_last (thn (hc pins s3 σ H3 _ I3 q3) fun w' s4 ⟨z', H4, I4, r4, q4⟩ => ho' pins s4 σ H4 y z' u w' Q I4 r2 r4 q4))
theorem pt_chain {op op' : CmpOp} {r r' : R2} (ho : OpR X (compareOp op) r) (ho' : OpR X (compareOp op') r') (ha : PE X a ta) (hb : PE X b tb) (hc : PE X c tc)
    (hm : lastMarks [op, op'] [b, c] = false := by with_unfolding_all rfl) : PT X (.Compare a [op, op'] [b, c] pos) (tTest (tChain r r' ta tb tc)) := by
  intro pins s σ H Q I h
  refine isTrue_chain (thn (ha pins s σ H _ I h) fun v s1 ⟨x, H1, I1, r1, q1⟩ => test_link (thn (hb pins s1 σ H1 _ I1 q1) fun u s2 ⟨y, H2, I2, r2, q2⟩ =>
    thn (ho pins s2 σ H2 x y v u _ I2 r1 r2 q2) fun d s3 ⟨z, H3, I3, r3, k, e, q3⟩ => ?_)) hm
  subst e
  cases r3
  refine wpAny_truthy_bool ?_
  cases k with
  | false =>
    obtain ⟨k', e', q'⟩ := q3
    cases e'
    exact ite_ff ⟨H3, I3, q'⟩
  | true =>
    refine ite_tt (test_last (thn (hc pins s3 σ H3 _ I3 q3) fun w' s4 ⟨z', H4, I4, r4, q4⟩ => thn (ho' pins s4 σ H4 y z' u w' _ I4 r2 r4 q4) fun d' s5 ⟨z2, H5, I5, r5, k2, e2, q5⟩ => ?_))
    subst e2
    cases r5
    exact wpAny_truthy_bool ⟨H5, I5, q5⟩

/-! ### truth -/
/-- a value's truth by the abstract heap -/
def TruV (K : PySem.W.Frag) (x : V) (H : Hp) (k : Bool) : Prop :=
  match x with
  | .non => k = false
  | .bl b => k = b
  | .int i => k = (i != 0)
  | .str y => y.length ≤ sizeLine ∧ k = ((y.length : Int) != 0)
  | .byt y => y.size ≤ sizeLine ∧ k = ((y.size : Int) != 0)
  | .ref p => (∃ xs, SqL K H p xs ∧ k = !xs.isEmpty) ∨ (∃ xs, SqT K H p xs ∧ k = !xs.isEmpty) ∨ ∃ kvs, H p = some (.dK kvs) ∧ k = !kvs.isEmpty
  | _ => False
theorem line63 : (sizeLine : Nat) < 2 ^ 63 := by rw [sizeLine_eq]; decide
/-! ### strs and bytes -/
def PlainIxT (b : Expr) : Prop := ∀ o i, subscripted b false o i = operate [o, i] (getItem o i)
/-! ### scalar builtins, by CallR -/
theorem vals1 {x : V} {us : List Value} (r : Vals [x] us) : ∃ u, us = [u] ∧ RelV x u := by
  cases r with
  | cons r1 r2 => cases r2; exact ⟨_, rfl, r1⟩
/-- len of a str, a bytes, a list, a tuple -/
def LenV (K : PySem.W.Frag) (x : V) (H : Hp) (n : Nat) : Prop :=
  match x with
  | .str y => y.length ≤ sizeLine ∧ n = y.length
  | .byt y => y.size ≤ sizeLine ∧ n = y.size
  | .ref p => (∃ xs, SqL K H p xs ∧ n = xs.length) ∨ ∃ xs, SqT K H p xs ∧ n = xs.length
  | _ => False
end
end L2

namespace L2
open PySem PySem.Spec PyProof.Rows

/-! ### an instance, its attributes a map -/
structure ObjM (h : Heap) (x dx C : Addr) (mA : Str → Option Value) : Prop where
  obj : h.get? x = some (PySem.W.instObj C dx)
  ns : h.Ns1 dx mA
  ne : dx ≠ x

theorem lookIn_ns {h : Heap} {dx : Addr} {mA : Str → Option Value} (n : h.Ns1 dx mA) : ∃ od, h.get? dx = some od ∧ ∀ name, PySem.W.lookIn name od = some (mA name) := by
  obtain ⟨o, es, ep, ho, hd, hk, _, hm⟩ := n
  refine ⟨o, ho, fun name => ?_⟩
  have e := hm name
  unfold nsFind findBy at e
  rw [← Array.find?_toList] at e
  unfold PySem.W.lookIn
  rw [hd]
  dsimp only
  split
  · rename_i y q
    rw [q] at e
    exact congrArg some e
  · rename_i q
    rw [q] at e
    have a : es.toList.any (·.refKey) = false := by
      rw [List.any_eq_false]
      intro y hy
      obtain ⟨z, t, hkey⟩ := hk y (Array.mem_toList_iff.mp hy)
      simp [DictEntry.refKey, hkey]
    have a' : ¬ es.toList.any (·.refKey) = true := by rw [a]; exact Bool.false_ne_true
    rw [if_neg a']
    exact congrArg some e

theorem ObjM.look {h : Heap} {x dx C : Addr} {mA : Str → Option Value} (I : ObjM h x dx C mA) : ∃ od, PySem.W.InstAt h x (PySem.W.instObj C dx) C (some od) ∧ ∀ name, PySem.W.lookIn name od = some (mA name) :=
  let ⟨od, ho, hl⟩ := lookIn_ns I.ns
  ⟨od, ⟨I.obj, rfl, rfl, ho⟩, hl⟩

section
variable {prog : Program} {w : World} {A : Around} {E : Value → Shared → Prop} {s : Shared} {K : PySem.W.Frag} {x dx C f : Addr} {mA : Str → Option Value} {name : Str} {v : Value}

theorem get_map {expr : Bool} {Q : Value → Shared → Prop} (X : K.In s.heap) (I : ObjM s.heap x dx C mA) (hg : PySem.W.plainGet K C name = true) (hh : PySem.W.hasDictIn K C = true)
    (ha : PySem.W.findIn K (.ref C) name = some none) (hv : mA name = some v) (hv' : PySem.W.handedIn v = true) (h : Q v { s with toks := s.toks + 1 }) :
    wpAny (model prog w) A (getAttr (.ref x) name expr) Q E s := by
  obtain ⟨od, J, hl⟩ := I.look
  exact PySem.W.get_value X J (PySem.W.plainGet_of hg).1 (PySem.W.findObj_own hh ha rfl (by rw [hl, hv])) hv' h

theorem get_meth {pl : Sem Bool} {Q : Value × List Value → Shared → Prop} (X : K.In s.heap) (I : ObjM s.heap x dx C mA) (hg : PySem.W.plainGet K C name = true)
    (hf : PySem.W.findIn K (.ref C) name = some (some (.ref f))) (ht : PySem.W.isFn K (.ref f) = true) (hv : mA name = none) (h : Q (.ref f, [.ref x]) s) :
    wpAny (model prog w) A (getMethod (.ref x) name pl) Q E s := by
  obtain ⟨od, J, hl⟩ := I.look
  exact PySem.W.method_fn X J (PySem.W.plainGet_of hg).1 (PySem.W.plainGet_of hg).2 hf (beq_iff_eq.mp ht) (by show (PySem.W.lookIn name od).map (·.isSome) = some false; rw [hl, hv]; rfl) h

theorem set_map {ns : List Str} {Q : Unit → Shared → Prop} (X : K.In s.heap) (I : ObjM s.heap x dx C mA)
    (hs : PySem.W.findIn K (.ref C) "__setattr__" = some (some (.builtin "object.__setattr__"))) (hp : PySem.W.plainOver K C = true) (ht : PySem.W.takerIn K C name = some none) (hh : PySem.W.hasDictIn K C = true)
    (hw : PySem.Within mA ns) (hsz : ns.length ≤ sizeLine)
    (h : ∀ h', ObjM h' x dx C (fun y => if y = name then some v else mA y) → Heap.SameBut dx s.heap h' → Q () { s with heap := h', toks := s.toks + 2 }) :
    wpAny (model prog w) A (setAttr (.ref x) name v) Q E s := by
  obtain ⟨od, J, hl⟩ := I.look
  refine PySem.W.set_plain X J hs (PySem.W.osa_open (s := { s with toks := s.toks + 1 }) (r := none) X J hp ht fun b => ?_)
  obtain ⟨cd, hc, hd'⟩ := PySem.W.any_some hh
  have hx : s.heap.get? x = some ⟨.ref C, some dx, .plain, #[]⟩ := I.obj
  refine wpAny_bind (wpAny_pure (wpAny_bind (wpAny_bind (wpAny_loadPart hx (wpAny_bind (PySem.W.Looks.here (s := { s with toks := s.toks + 1 }) (PySem.W.looks_clsIn X hc) ?_))))))
  rw [hd']
  refine wpAny_pure (a := some dx) (wpAny_bind (wpAny_pure (wpAny_bind ?_)))
  refine wpAny_nsSet1 (s := { s with toks := s.toks + 1 }) I.ns fun h' hn2 hs2 => ?_
  obtain ⟨oD, esD, epD, hoD, hdD, hcD⟩ := hn2.count (PySem.Within.cons name v hw)
  refine wpAny_bind (wpAny_lookBehind hoD (by rw [hdD]; exact pastItsLine_dict (Nat.le_trans hcD (by rw [List.length_cons]; omega))) ?_)
  exact wpAny_pure (h _ ⟨(hs2.2 _ (Ne.symm I.ne)).trans I.obj, hn2, I.ne⟩ hs2)

/-- C(..): the dict at the heap's end, the instance behind it; then its __init__ -/
theorem make_map {R : Result → Shared → Prop} {vs : List Value} {kw : List (Str × Value)} (X : K.In s.heap) (hm : PySem.W.makesIn K C = true)
    (hi : PySem.W.findIn K (.ref C) "__init__" = some (some (.ref f))) (hf : PySem.W.typeIn K (.ref f) = some (.type "function"))
    (h : codeAny (model prog w) (A.under (.builtin "type.__call__" ⟨.ref C :: vs, kw⟩)) (.call (.ref f) ⟨.ref (s.heap.objs.size + 1) :: vs, kw⟩) (PySem.W.InitBack (s.heap.objs.size + 1) R)
      { s with heap := (s.heap.push PySem.W.emptyDict).push (PySem.W.instObj C s.heap.objs.size) }) :
    codeAny (model prog w) A (.call (.ref C) ⟨vs, kw⟩) R s := by
  obtain ⟨hh, g, d, t, os⟩ := s
  exact PySem.W.make_core (PySem.W.makes_of X hm) (PySem.W.looks_findIn X hi) (fun self => PySem.W.bind_fn X self hf) (.inl rfl) h
end

/-! ### the attributes as a list of pairs -/
def putF (f : Str) (v : V) : List (Str × V) → List (Str × V)
  | [] => [(f, v)]
  | (g, x) :: r => if g = f then (g, v) :: r else (g, x) :: putF f v r
theorem lookup_putF (f g : Str) (v : V) : ∀ fs : List (Str × V), (putF f v fs).lookup g = if g = f then some v else fs.lookup g
  | [] => by
    show List.lookup g [(f, v)] = _
    by_cases h : g = f
    · have hb : (g == f) = true := beq_iff_eq.mpr h
      simp only [List.lookup, hb, if_pos h]
    · have hb : (g == f) = false := beq_eq_false_iff_ne.mpr h
      simp only [List.lookup, hb, if_neg h]
  | (k, x) :: r => by
    have ih := lookup_putF f g v r
    rw [show putF f v ((k, x) :: r) = (if k = f then (k, v) :: r else (k, x) :: putF f v r) from rfl]
    by_cases hk : k = f
    · rw [if_pos hk]
      by_cases h : g = k
      · have hb : (g == k) = true := beq_iff_eq.mpr h
        simp only [List.lookup, hb, if_pos (h.trans hk)]
      · have hb : (g == k) = false := beq_eq_false_iff_ne.mpr h
        simp only [List.lookup, hb, if_neg (fun e : g = f => h (e.trans hk.symm))]
    · rw [if_neg hk]
      by_cases h : g = k
      · have hb : (g == k) = true := beq_iff_eq.mpr h
        simp only [List.lookup, hb, if_neg (fun e : g = f => hk (h.symm.trans e))]
      · have hb : (g == k) = false := beq_eq_false_iff_ne.mpr h
        simp only [List.lookup, hb]
        exact ih
theorem keys_putF (f : Str) (v : V) : ∀ fs : List (Str × V), f ∈ (putF f v fs).map (·.1) ∧ ∀ g, g ∈ fs.map (·.1) → g ∈ (putF f v fs).map (·.1)
  | [] => ⟨by simp [putF], fun g h => by simp at h⟩
  | (k, x) :: r => by
    obtain ⟨i1, i2⟩ := keys_putF f v r
    rw [show putF f v ((k, x) :: r) = (if k = f then (k, v) :: r else (k, x) :: putF f v r) from rfl]
    by_cases hk : k = f
    · rw [if_pos hk]
      subst hk
      exact ⟨by simp, fun g h => by simpa using h⟩
    · rw [if_neg hk]
      refine ⟨?_, fun g h => ?_⟩
      · rw [List.map_cons]
        exact List.mem_cons_of_mem _ i1
      · rw [List.map_cons] at h ⊢
        rcases List.mem_cons.mp h with e | e
        · exact List.mem_cons.mpr (.inl e)
        · exact List.mem_cons_of_mem _ (i2 g e)
theorem length_putF (f : Str) (v : V) : ∀ fs : List (Str × V), (putF f v fs).length ≤ fs.length + 1
  | [] => by simp [putF]
  | (k, x) :: r => by
    have ih := length_putF f v r
    rw [show putF f v ((k, x) :: r) = (if k = f then (k, v) :: r else (k, x) :: putF f v r) from rfl]
    by_cases hk : k = f
    · rw [if_pos hk, List.length_cons, List.length_cons]; omega
    · rw [if_neg hk, List.length_cons, List.length_cons]; omega

theorem RelO.some_of {v : V} {o : Option Value} (r : RelO (some v) o) : ∃ u, o = some u ∧ RelV v u := by
  cases o with
  | none => exact (show False from r).elim
  | some u => exact ⟨u, rfl, r⟩
theorem RelO.none_of {o : Option Value} (r : RelO none o) : o = none := by
  cases o with
  | none => rfl
  | some u => exact (show False from r).elim
theorem handed_of {v : V} {u : Value} (r : RelV v u) : PySem.W.handedIn u = true := by
  cases v with
  | non => cases (show u = Value.none from r); rfl
  | bl b => cases (show u = Value.bool b from r); rfl
  | int i => obtain ⟨t, e⟩ := (show ∃ t, u = Value.int i t from r); cases e; rfl
  | str x => obtain ⟨t, e⟩ := (show ∃ t, u = Value.str x t from r); cases e; rfl
  | byt b => obtain ⟨t, e⟩ := (show ∃ t, u = Value.bytes b t from r); cases e; rfl
  | flt b => obtain ⟨t, e⟩ := (show ∃ t, u = Value.float b t from r); cases e; rfl
  | ref a => cases (show u = Value.ref a from r); rfl
  | ty n => cases (show u = Value.type n from r); rfl

section
variable {P : Program} {w : World} {H H' : Hp} {h h' : Heap} {a C dx : Addr} {fs fs' : List (Str × V)}
theorem ins_get (hok : HOk P w H h) (e : H a = some (.ins C dx fs)) : ∃ mA, ObjM h a dx C mA ∧ (∀ f, RelO (fs.lookup f) (mA f)) ∧ PySem.Within mA (fs.map (·.1)) ∧ fs.length ≤ 1000 ∧ H dx = some (.own a) := by
  obtain ⟨d, z, ne, ob, mA, n, r, q⟩ := (show ObjOk P w H h a (.ins C dx fs) from hok a _ e)
  exact ⟨mA, ⟨ob, n, ne⟩, r, q, z, d⟩
end

/-! ### what of the text a class must have -/
structure Cls (K : PySem.W.Frag) (C : Addr) : Prop where
  pg : PySem.W.plainGet K C Str.empty = true
  hd : PySem.W.hasDictIn K C = true
  po : PySem.W.plainOver K C = true
  sa : PySem.W.findIn K (.ref C) "__setattr__" = some (some (.builtin "object.__setattr__"))
theorem Cls.get {K : PySem.W.Frag} {C : Addr} (c : Cls K C) (f : Str) : PySem.W.plainGet K C f = true := c.pg
/-- no class of it has the name -/
def NoAttr (K : PySem.W.Frag) (C : Addr) (f : Str) : Prop := PySem.W.findIn K (.ref C) f = some none
theorem NoAttr.taker {K : PySem.W.Frag} {C : Addr} {f : Str} (n : NoAttr K C f) : PySem.W.takerIn K C f = some none := by
  unfold PySem.W.takerIn
  rw [show PySem.W.findIn K (.ref C) f = some none from n]
  rfl
/-- a constant of the class -/
structure Con (K : PySem.W.Frag) (C : Addr) (f : Str) (v : V) (u : Value) : Prop where
  at_ : PySem.W.findIn K (.ref C) f = some (some u)
  rel : RelV v u
  get : PySem.W.specialIn K u "__get__" = some none
  cp : PySem.W.copiedNames.contains f = false
/-- a method: a plain def of the class or of one above it -/
structure Meth (K : PySem.W.Frag) (C : Addr) (m : Str) (f : Addr) : Prop where
  at_ : PySem.W.findIn K (.ref C) m = some (some (.ref f))
  fn : PySem.W.isFn K (.ref f) = true
  kp : PySem.W.keepIn K (.ref f) = true

section
variable {X : Cx} {pins : List (Addr × Obj)} {σ : St} {H : Hp} {s : Shared} {a C dx : Addr} {fs : List (Str × V)} {f : Str} {v : V} {A : Around} {E : Value → Shared → Prop}

theorem getattr_ok {b : Bool} {Q : Value → Shared → Prop} (I : Inv X pins σ H s) (e : H a = some (.ins C dx fs)) (c : Cls X.K C) (n : NoAttr X.K C f) (l : fs.lookup f = some v)
    (h : ∀ u s', Inv X pins σ H s' → RelV v u → Q u s') : wpAny (model X.prog X.w) A (getAttr (.ref a) f b) Q E s := by
  obtain ⟨mA, O, r, _, _, _⟩ := ins_get I.hok e
  obtain ⟨u, hu, ru⟩ := RelO.some_of (v := v) (o := mA f) (by rw [← l]; exact r f)
  exact get_map I.kIn O (c.get f) c.hd n hu (handed_of ru) (h u _ (I.tok _) ru)

theorem getmeth_ok {m : Str} {g : Addr} {pl : Sem Bool} {Q : Value × List Value → Shared → Prop} (I : Inv X pins σ H s) (e : H a = some (.ins C dx fs)) (c : Cls X.K C) (k : Meth X.K C m g) (l : fs.lookup m = none)
    (h : Q (.ref g, [.ref a]) s) : wpAny (model X.prog X.w) A (getMethod (.ref a) m pl) Q E s := by
  obtain ⟨mA, O, r, _, _, _⟩ := ins_get I.hok e
  have hn : mA m = none := RelO.none_of (by rw [← l]; exact r m)
  exact get_meth I.kIn O (c.get m) k.at_ k.fn hn h

theorem setattr_ok {y : V} {u : Value} {Q : Unit → Shared → Prop} (I : Inv X pins σ H s) (e : H a = some (.ins C dx fs)) (c : Cls X.K C) (n : NoAttr X.K C f) (hl : fs.length < 1000) (ry : RelV y u)
    (h : ∀ s', Inv X pins σ (upd H a (.ins C dx (putF f y fs))) s' → Q () s') : wpAny (model X.prog X.w) A (setAttr (.ref a) f u) Q E s := by
  obtain ⟨mA, O, r, wi, _, ho⟩ := ins_get I.hok e
  have hz : (fs.map (·.1)).length ≤ sizeLine := by rw [List.length_map, sizeLine_eq]; omega
  refine set_map I.kIn O c.sa c.po n.taker c.hd wi hz fun h' O' sb => h _ ?_
  have hd : ∃ o, h'.get? dx = some o := let ⟨o, _, _, e', _⟩ := O'.ns; ⟨o, e'⟩
  refine I.write (x := a) (e := dx) (by rw [e]; exact True.intro) (.inr ho) (fun b q hb z => (sb.2 b hb).trans z) hd ?_
  refine ⟨by rw [upd_ne O.ne]; exact ho, ?_, O.ne, O'.obj, _, O'.ns, fun g => ?_, fun g hg => ?_⟩
  · have := length_putF f y fs; omega
  · show RelO ((putF f y fs).lookup g) (if g = f then some u else mA g)
    rw [lookup_putF]
    by_cases q : g = f
    · rw [if_pos q, if_pos q]; exact ry
    · rw [if_neg q, if_neg q]; exact r g
  · by_cases q : g = f
    · rw [q]; exact (keys_putF f y fs).1
    · refine (keys_putF f y fs).2 g (wi g fun z => hg ?_)
      show (if g = f then some u else mA g) = none
      rw [if_neg q]; exact z

/-- a new instance, tracked, without attributes -/
theorem Inv.made (I : Inv X pins σ H s) : Inv X pins σ (upd (upd H s.heap.objs.size (.own (s.heap.objs.size + 1))) (s.heap.objs.size + 1) (.ins C s.heap.objs.size []))
    { s with heap := (s.heap.push PySem.W.emptyDict).push (PySem.W.instObj C s.heap.objs.size) } := by
  have e1 : (s.heap.push PySem.W.emptyDict).get? s.heap.objs.size = some PySem.W.emptyDict := Heap.get?_push_size s.heap rfl
  have e2 : ((s.heap.push PySem.W.emptyDict).push (PySem.W.instObj C s.heap.objs.size)).get? (s.heap.objs.size + 1) = some (PySem.W.instObj C s.heap.objs.size) := by
    have := Heap.get?_push_size (s.heap.push PySem.W.emptyDict) (o := PySem.W.instObj C s.heap.objs.size) rfl
    rwa [Heap.size_push] at this
  have e3 : (s.heap.push PySem.W.emptyDict).Ns s.heap.objs.size (fun _ => none) := ⟨PySem.W.emptyDict, #[], _, e1, rfl, (fun e he => absurd he (by simp)), fun _ => rfl⟩
  have I1 := I.laid (a := s.heap.objs.size) (o := .own (s.heap.objs.size + 1)) (h' := s.heap.push PySem.W.emptyDict) (t' := s.toks) (fun b u q => Heap.get?_push_of_some _ q) (Nat.le_refl _) ⟨_, e1⟩
  refine I1.laid (a := s.heap.objs.size + 1) (o := .ins C s.heap.objs.size []) (t' := s.toks) (fun b u q => Heap.get?_push_of_some _ q) (Nat.le_of_eq (Heap.size_push _ _)) ?_
  have ne : s.heap.objs.size ≠ s.heap.objs.size + 1 := Nat.ne_of_lt (Nat.lt_succ_self _)
  refine ⟨by rw [upd_ne ne, upd_same], Nat.zero_le _, ne, e2, fun _ => none, (Heap.Ns1.of_empty e3).at fun o q => Heap.get?_push_of_some _ q, fun _ => True.intro, fun y hy => absurd rfl hy⟩

/-- e.f where nothing but the object is asked: through attributeBase (super) and the last hold -/
theorem attr_of {prog : Program} {w : World} {env : Env} {e : Expr} {f : Str} {pos : Pos} {s : Shared} {Q : Value → Shared → Prop} (hb : attributeBase e f env (eval e env) = eval e env)
    (h : wpAny (model prog w) A (eval e env) (fun o s₁ => wpAny (model prog w) A (getAttr o f true) Q E s₁) E s) : wpAny (model prog w) A (eval (.Attribute e f pos) env) Q E s :=
  Attribute_any_ h (by rw [arm_eval_Attribute, hb])
end

/-! ### readings and rules -/
/-- e.f, an attribute of the instance -/
def tFld (K : PySem.W.Frag) (ta : TE) (f : Str) : TE := fun σ H Q => ta σ H fun x H1 => ∃ a C dx fs v, x = .ref a ∧ H1 a = some (.ins C dx fs) ∧ Cls K C ∧ NoAttr K C f ∧ fs.lookup f = some v ∧ Q v H1
/-- e.f, a constant of the class -/
def tCon (K : PySem.W.Frag) (ta : TE) (f : Str) : TE := fun σ H Q => ta σ H fun x H1 => ∃ a C dx fs v u, x = .ref a ∧ H1 a = some (.ins C dx fs) ∧ Cls K C ∧ Con K C f v u ∧ fs.lookup f = none ∧ Q v H1
/-- e.f = value -/
def sFld (K : PySem.W.Frag) (ta tv : TE) (f : Str) : TS := fun D σ H => tv σ H fun y H1 => ta σ H1 fun x H2 => ∃ a C dx fs, x = .ref a ∧ H2 a = some (.ins C dx fs) ∧ Cls K C ∧ NoAttr K C f ∧ fs.length < 1000 ∧
  D.nx σ (upd H2 a (.ins C dx (putF f y fs)))
/-- an augmented operator on two values -/
def InOp (X : Cx) (op : Operator) (rd : V → V → Hp → VK → Prop) : Prop :=
  ∀ (pins : List (Addr × Obj)) (s : Shared) (σ : St) (H : Hp) (x y : V) (u v : Value) (Q : VK), Inv X pins σ H s → RelV x u → RelV y v → rd x y H Q → wpAny (model X.prog X.w) X.A (inplaceOp op u v) (EP X pins σ Q) X.xe s
/-- e.f op= value -/
def sFldAug (K : PySem.W.Frag) (ta tv : TE) (rd : V → V → Hp → VK → Prop) (f : Str) : TS := fun D σ H => ta σ H fun x H1 => ∃ a C dx fs v, x = .ref a ∧ H1 a = some (.ins C dx fs) ∧ Cls K C ∧ NoAttr K C f ∧ fs.lookup f = some v ∧
  tv σ H1 fun y H2 => rd v y H2 fun z H3 => ∃ dx' fs', H3 a = some (.ins C dx' fs') ∧ fs'.length < 1000 ∧ D.nx σ (upd H3 a (.ins C dx' (putF f z fs')))

section
variable {X : Cx} {o e value : Expr} {f : Str} {pos pos' tpos : Pos} {ta tv : TE}
theorem pe_fld (he : PE X e ta) (hb : attributeBase e f X.env (eval e X.env) = eval e X.env) : PE X (.Attribute e f pos) (tFld X.K ta f) := by
  intro pins s σ H Q I h
  refine attr_of hb (thn (he pins s σ H _ I h) fun u s1 ⟨x, H1, I1, rx, a, C, dx, fs, v, ex, ea, c, n, l, q⟩ => ?_)
  subst ex
  obtain rfl : u = Value.ref a := rx
  exact getattr_ok I1 ea c n l fun u' s2 I2 ru => ⟨v, H1, I2, ru, q⟩
theorem ps_fld (ha : PE X o ta) (hv : PE X value tv) (hs : swapsWith value (some (.Attribute o f pos')) pos.line X.env = pure false) : PS X (.Assign [.Attribute o f pos'] value pos) (sFld X.K ta tv f) := by
  intro pins s σ H D I h
  refine plainObj_wpAny_Assign_Attribute (thn (hv pins s σ H _ I h) fun u s1 ⟨y, H1, I1, ry, q⟩ => thn (ha pins s1 σ H1 _ I1 q) fun ov s2 ⟨x, H2, I2, rx, a, C, dx, fs, ex, ea, c, n, l, q2⟩ => ?_) hs
  subst ex
  obtain rfl : ov = Value.ref a := rx
  exact setattr_ok I2 ea c n l ry fun s3 I3 => ⟨σ, _, I3, q2⟩
theorem ps_fldaug {op : Operator} {rd : V → V → Hp → VK → Prop} (ha : PE X o ta) (hv : PE X value tv) (hop : InOp X op rd) : PS X (.AugAssign (.Attribute o f tpos) op value pos) (sFldAug X.K ta tv rd f) := by
  intro pins s σ H D I h
  refine wpAny_AugAssign_AttributeAny (thn (ha pins s σ H _ I h) fun ov s1 ⟨x, H1, I1, rx, a, C, dx, fs, v, ex, ea, c, n, l, q⟩ => ?_)
  subst ex
  obtain rfl : ov = Value.ref a := rx
  refine getattr_ok I1 ea c n l fun u s2 I2 ru => thn (hv pins s2 σ H1 _ I2 q) fun w3 s3 ⟨y, H2, I3, ry, q3⟩ => thn (hop pins s3 σ H2 v y u w3 _ I3 ru ry q3) fun w4 s4 ⟨z, H3, I4, rz, dx', fs', ea', l', q4⟩ => ?_
  exact setattr_ok I4 ea' c n l' rz fun s5 I5 => ⟨σ, _, I5, q4⟩
def rAdd : V → V → Hp → VK → Prop := fun x y H Q => ∃ i j, x = .int i ∧ y = .int j ∧ Q (.int (i + j)) H
def rSub : V → V → Hp → VK → Prop := fun x y H Q => ∃ i j, x = .int i ∧ y = .int j ∧ Q (.int (i - j)) H
theorem in_add : InOp X .Add rAdd := by
  rintro pins s σ H x y u v Q I rx ry ⟨i, j, rfl, rfl, q⟩
  obtain ⟨t, rfl⟩ := (show ∃ t, u = Value.int i t from rx)
  obtain ⟨t', rfl⟩ := (show ∃ t', v = Value.int j t' from ry)
  exact PyProof.Rows.iadd_int ⟨.int (i + j), H, I.tok _, ⟨_, rfl⟩, q⟩
/-- what is between an instance and its method: the tree of a method call -/
theorem methcall_of {pl : Sem Bool} {m : Str} {apos : Pos} {args : List Expr} {pins : List (Addr × Obj)} {s : Shared} {σ : St} {H : Hp} {Q : Value → Shared → Prop} {te : TE} (he : PE X e te) (I : Inv X pins σ H s)
    (h : te σ H fun x H1 => ∃ a C dx fs g, x = .ref a ∧ H1 a = some (.ins C dx fs) ∧ Cls X.K C ∧ Meth X.K C m g ∧ fs.lookup m = none ∧
      ∀ s1, Inv X pins σ H1 s1 → wpAny (model X.prog X.w) X.A (callWith pos (.ref g) [.ref a] (backTo pos (starEach args X.env)) (backToKw pos (keywordEach [] X.env))) Q X.xe s1)
    (ht : eval (.Call (.Attribute e m apos) args [] pos) X.env = (do
      let ov ← eval e X.env
      standAt apos.atName
      let (f, first) ← holding [ov] (getMethod ov m pl)
      callWith pos f first (backTo pos (starEach args X.env)) (backToKw pos (keywordEach [] X.env)))) :
    wpAny (model X.prog X.w) X.A (eval (.Call (.Attribute e m apos) args [] pos) X.env) Q X.xe s := by
  refine PySem.W.methodCall_KW (pl := pl) (thn (he pins s σ H _ I h) fun u s1 ⟨x, H1, I1, rx, a, C, dx, fs, g, ex, ea, c, k, l, q⟩ => ?_) ht
  subst ex
  obtain rfl : u = Value.ref a := rx
  exact getmeth_ok I1 ea c k l (q s1 I1)
end

/-! ### isinstance -/
section
variable {X : Cx} {pins : List (Addr × Obj)} {σ : St} {H : Hp} {s : Shared} {A : Around} {E : Value → Shared → Prop} {Q : Value → Shared → Prop} {c : Value} {b : Bool}
/-- the type of a value, as the fragment's deciders take it; for an instance its class -/
inductive TyOf (K : PySem.W.Frag) (H : Hp) : V → Value → Prop where
  | non : TyOf K H .non (.type "NoneType")
  | bl (x : Bool) : TyOf K H (.bl x) (.type "bool")
  | int (i : Int) : TyOf K H (.int i) (.type "int")
  | str (x : Str) : TyOf K H (.str x) (.type "str")
  | flt (x : UInt64) : TyOf K H (.flt x) (.type "float")
  | lst {a : Addr} {xs : List V} (e : H a = some (.lst xs)) : TyOf K H (.ref a) (.type "list")
  | frz {a : Addr} {o : Obj} {xs : List V} (e : H a = some (.frz o (.lst xs))) : TyOf K H (.ref a) (.type "list")
  | tup {a : Addr} {xs : List V} (e : H a = some (.tup xs)) : TyOf K H (.ref a) (.type "tuple")
  | dK {a : Addr} {kvs : List (Key × V)} (e : H a = some (.dK kvs)) : TyOf K H (.ref a) (.type "dict")
  | dT {a : Addr} {kvs : List (List Key × V)} (e : H a = some (.dT kvs)) : TyOf K H (.ref a) (.type "dict")
  | ins {a C dx : Addr} {fs : List (Str × V)} (e : H a = some (.ins C dx fs)) (cl : Cls K C) (ha : PySem.W.findIn K (.ref C) "__class__" = some (some (.builtin "object.__class__")))
      (hn : PySem.W.specialIn K (.builtin "object.__class__") "__get__" = some (some (.builtin "getset_descriptor.__get__"))) (htk : PySem.W.takesIn K (.builtin "object.__class__") = some true)
      (hm : PySem.W.mroIn K C (.type "object") = some true) : TyOf K H (.ref a) (.ref C)
end
end L2

namespace L2
open PySem PySem.Spec PyProof.Rows

/-! ### room -/
structure Room (k : Nat) (A : Around) : Prop where
  hd : A.handled = none
  dp : A.depth + 3 * k + 5 < recursionLimit
  un : A.units + 16 * k + 200 < cLine
theorem Room.mono {j k : Nat} {A : Around} (r : Room k A) (h : j ≤ k) : Room j A := ⟨r.hd, by have := r.dp; omega, by have := r.un; omega⟩
theorem Room.deeper {k : Nat} {A : Around} (r : Room (k + 1) A) (env : Env) : Room k (A.deeper env) :=
  ⟨r.hd, by have := r.dp; show A.depth + 1 + 3 * k + 5 < _; omega, by have := r.un; show A.units + 3 + 16 * k + 200 < _; omega⟩
theorem make_depth {A : Around} {C : Addr} {us : List Value} {kw : List (Str × Value)} : (A.under (.builtin "type.__call__" ⟨.ref C :: us, kw⟩)).depth = A.depth + 1 := by
  first | rfl | simp [Around.under, Code.weight, Code.isCreation, Code.isGuard, Code.isCaller, Code.frames, Code.isFrame, guardIds]
theorem make_units {A : Around} {C : Addr} {us : List Value} {kw : List (Str × Value)} : (A.under (.builtin "type.__call__" ⟨.ref C :: us, kw⟩)).units = A.units + 1 := by
  first | rfl | simp [Around.under, Code.cUnits, Code.frames, Code.isFrame]
theorem Room.make {k : Nat} {A : Around} (r : Room (k + 1) A) (C : Addr) (us : List Value) (kw : List (Str × Value)) : Room k (A.under (.builtin "type.__call__" ⟨.ref C :: us, kw⟩)) :=
  ⟨r.hd, by have := r.dp; rw [make_depth]; omega, by have := r.un; rw [make_units]; omega⟩
theorem Room.depth {k : Nat} {A : Around} (r : Room k A) : A.depth < recursionLimit := by have := r.dp; omega
theorem Room.units {k : Nat} {A : Around} (r : Room k A) : A.units + 64 < cLine := by have := r.un; omega
/-! ### argument lists and displays -/
def tNil : TA := fun _ H Q => Q [] H
def tCons (ta : TE) (tr : TA) : TA := fun σ H Q => ta σ H fun x H1 => tr σ H1 fun xs H2 => Q (x :: xs) H2
section
variable {X : Cx} {e : Expr} {es : List Expr} {te : TE} {t : TA} {pos : Pos}
theorem pa_nil : PA X [] tNil := fun _ _ _ _ H Q I h => Calls.spliced_nil ⟨[], H, I, .nil, h⟩
theorem pa_cons (ha : PE X e te) (hr : PA X es t) (hs : starEach (e :: es) X.env = (false, eval e X.env) :: starEach es X.env := by rfl) : PA X (e :: es) (tCons te t) := by
  intro pos pins s σ H Q I h
  rw [hs]
  show wpAny _ _ (spliced ((false, eval e X.env) :: backTo pos (starEach es X.env))) _ _ s
  refine Calls.spliced_cons (thn (ha pins s σ H _ I h) fun u s1 ⟨x, H1, I1, r1, q1⟩ => ?_)
  exact thn (hr pos pins s1 σ H1 _ I1 q1) fun us s2 ⟨xs, H2, I2, r2, q2⟩ => ⟨x :: xs, H2, I2, .cons r1 r2, q2⟩

/-- a tuple, a list of written items -/
def tTup (t : TA) : TE := fun σ H Q => t σ H fun xs H1 => xs.length ≤ sizeLine ∧ ∀ p, H1 p = none → Q (.ref p) (upd H1 p (.tup xs))
def tLst (t : TA) : TE := fun σ H Q => t σ H fun xs H1 => xs.length ≤ sizeLine ∧ ∀ p, H1 p = none → Q (.ref p) (upd H1 p (.lst xs))
theorem pe_tup {x1} (h : PA X es t) : PE X (.Tuple es x1 pos) (tTup t) := by
  intro pins s σ H Q I hq
  refine wpAny_Tuple_spliced (thn (h pos pins s σ H _ I hq) fun us s1 ⟨xs, H1, I1, r, z, q⟩ => ⟨by rw [← r.length]; exact z, ?_⟩)
  have hf : H1 s1.heap.objs.size = none := I1.hok.fresh (Nat.le_refl _)
  refine ⟨.ref s1.heap.objs.size, upd H1 s1.heap.objs.size (.tup xs), I1.laid (t' := s1.toks) (fun b u e => Heap.get?_push_of_some _ e) (Nat.le_refl _) ?_, rfl, q _ hf⟩
  exact ⟨z, us, r, ⟨_, Heap.get?_push_size _ rfl, rfl, _, rfl⟩⟩
theorem pe_lst (h : PA X es t) : PE X (.List es pos) (tLst t) := by
  intro pins s σ H Q I hq
  refine wpAny_List_spliced (thn (h pos pins s σ H _ I hq) fun us s1 ⟨xs, H1, I1, r, z, q⟩ => ⟨by rw [← r.length]; exact z, ?_⟩)
  have hf : H1 s1.heap.objs.size = none := I1.hok.fresh (Nat.le_refl _)
  refine ⟨.ref s1.heap.objs.size, upd H1 s1.heap.objs.size (.lst xs), I1.laid (t' := s1.toks) (fun b u e => Heap.get?_push_of_some _ e) (Nat.le_refl _) ?_, rfl, q _ hf⟩
  exact ⟨z, us, 0, r, Heap.get?_push_size _ rfl⟩
end

/-! ### what a def promises -/
/-- a def's promise: the bound arguments in the parameters' order, the heap, the wanted end, the wanted exception -/
abbrev Sp := List V → Hp → VK → XK → Prop
/-- how an exception lies behind a call (file 08 gives it): the callers' frames, abstract heap and state ahead of the call, the wish, the exception, the state -/
abbrev CXT := List Env → Hp → Shared → XK → Value → Shared → Prop

/-- the state at a call -/
structure Env0 (P : Program) (w : World) (K : PySem.W.Frag) (mg : Str → Option Value) (base : Heap) (A : Around) (outer : List Env) (s : Shared) (H : Hp) : Prop where
  frames : A.frames = some outer
  mod : Mod K mg base
  bs : ∀ b o, base.get? b = some o → s.heap.get? b = some o ∧ H b = none
  bsz : base.objs.size ≤ s.heap.objs.size
  funs : s.heap.FunFrames base outer
  frf : ∀ b ∈ frs outer, H b = none
  hok : HOk P w H s.heap
  bare : AllBare s.gens
/-- a call's end -/
def CE (outer : List Env) (P : Program) (w : World) (H : Hp) (s : Shared) (Q : VK) (u : Value) (s' : Shared) : Prop :=
  ∃ v H', s'.os = s.os ∧ AllBare s'.gens ∧ Un (frs outer) [] H H' s.heap s'.heap ∧ HOk P w H' s'.heap ∧ RelV v u ∧ Q v H'
def CR (CX : CXT) (outer : List Env) (P : Program) (w : World) (H : Hp) (s : Shared) (Q : VK) (E : XK) (r : Result) (s' : Shared) : Prop :=
  match r with
  | .ok (.ret u) => CE outer P w H s Q u s'
  | .ok _ => False
  | .error e => CX outer H s E e s'
structure FnOk (P : Program) (w : World) (K : PySem.W.Frag) (mg : Str → Option Value) (base : Heap) (CX : CXT) (k : Nat) (f : Addr) (fd : FuncData) (ps : List Str) (sp : Sp) : Prop where
  len : ∀ vs H Q E, sp vs H Q E → vs.length = ps.length
  run : ∀ (A : Around) (outer : List Env) (s : Shared) (H : Hp) (args : Args) (us : List Value) (vs : List V) (Q : VK) (E : XK), Room k A → Env0 P w K mg base A outer s H → BindsTo s fd args (ps.zip us) → Vals vs us → sp vs H Q E →
    codeAny (model P w) A (.call (.ref f) args) (CR CX outer P w H s Q E) s
theorem Env0.make {P : Program} {w : World} {K : PySem.W.Frag} {mg : Str → Option Value} {base : Heap} {A : Around} {outer : List Env} {s : Shared} {H : Hp} (e : Env0 P w K mg base A outer s H) (C : Addr) (us : List Value) (kw : List (Str × Value)) :
    Env0 P w K mg base (A.under (.builtin "type.__call__" ⟨.ref C :: us, kw⟩)) outer s H := ⟨by first | exact e.frames | (simpa [Around.under, Code.envs, Code.isFrame, pushEnvs] using e.frames), e.mod, e.bs, e.bsz, e.funs, e.frf, e.hok, e.bare⟩
section
variable {X : Cx} {pins : List (Addr × Obj)} {σ : St} {H : Hp} {s s' : Shared}
/-- from a body: what a callee wants -/
theorem Inv.env0 (I : Inv X pins σ H s) : Env0 X.prog X.w X.K X.mg X.base X.A X.stack s H :=
  ⟨I.ok.frames, I.ok.mod, I.bs, Nat.le_trans I.ok.bsz I.sz, I.stack, I.stkFree, I.hok, I.bare⟩
/-- behind a call -/
theorem Inv.after {Q : VK} {u : Value} (I : Inv X pins σ H s) (h : CE X.stack X.prog X.w H s Q u s') : EP X pins σ Q u s' := by
  obtain ⟨v, H', os, bare, un, hok, r, q⟩ := h
  obtain ⟨hh, g, d, t, os'⟩ := s'
  obtain rfl : os' = s.os := os
  exact ⟨v, H', I.call (h' := hh) (g' := g) (d' := d) (t' := t) (ch := []) un hok bare (fun b z => absurd z (by simp)), r, q⟩
end

/-! ### calls -/
/-- f(..): the written arguments, then the defaults dvs; E: what is wanted of an exception -/
def tCall (sp : Sp) (dvs : List V) (E : XK) (t : TA) : TE := fun σ H Q => t σ H fun vs H1 => sp (vs ++ dvs) H1 Q E
/-- o.m(..) of an instance of the class at C -/
def tMeth (C : Addr) (m : Str) (sp : Sp) (dvs : List V) (E : XK) (ta : TE) (t : TA) : TE := fun σ H Q => ta σ H fun x H1 => ∃ a dx fs, x = .ref a ∧ H1 a = some (.ins C dx fs) ∧ fs.lookup m = none ∧
  t σ H1 fun vs H2 => sp (x :: (vs ++ dvs)) H2 Q E
/-- C(..): a new instance and its dict, then __init__ -/
def tMake (C : Addr) (sp : Sp) (dvs : List V) (E : XK) (t : TA) : TE := fun σ H Q => t σ H fun vs H1 => ∀ x dx, H1 x = none → H1 dx = none → dx ≠ x →
  sp (.ref x :: (vs ++ dvs)) (upd (upd H1 dx (.own x)) x (.ins C dx [])) (fun v H2 => v = .non ∧ Q (.ref x) H2) E

/-- how the parameters are bound: us the positional arguments, kw the keywords' values by name, ds the defaults that fill up -/
def Binds (K : PySem.W.Frag) (fd : FuncData) (ps : List Str) (ds : List Value) : Prop :=
  ∀ (s : Shared) (us : List Value), K.In s.heap → (us ++ ds).length = ps.length → BindsTo s fd ⟨us, []⟩ (ps.zip (us ++ ds))
/-- every parameter is given -/
theorem Binds.all {K : PySem.W.Frag} {fd : FuncData} {ps : List Str} (h : ∀ us : List Value, us.length = ps.length → bindArgs fd ⟨us, []⟩ = pure (ps.zip us)) : Binds K fd ps [] := fun s us _ hl => by
  rw [List.append_nil] at hl ⊢
  exact .of_eq (h us hl)

/-- an exception of a callee reaches what this body wants of exceptions -/
def Passes (CX : CXT) (X : Cx) (E : XK) : Prop := ∀ (pins : List (Addr × Obj)) (σ : St) (H : Hp) (s : Shared) (e : Value) (s' : Shared), Inv X pins σ H s → CX X.stack H s E e s' → X.xe e s'

section
variable {X : Cx} {CX : CXT} {k : Nat} {f C : Addr} {fd : FuncData} {ps : List Str} {sp : Sp} {dvs : List V} {ds : List Value} {E : XK} {x m : Str} {p pos apos : Pos} {e o : Expr} {es : List Expr} {ta : TE} {t : TA}

/-- the callee runs -/
theorem run_fn {pins : List (Addr × Obj)} {σ : St} {H : Hp} {s : Shared} {Q : VK} {us : List Value} {vs : List V} (F : FnOk X.prog X.w X.K X.mg X.base CX k f fd ps sp) (hr : Room k X.A) (hb : Binds X.K fd ps ds) (hd : Vals dvs ds) (hx : Passes CX X E)
    (I : Inv X pins σ H s) (r : Vals vs us) (h : sp (vs ++ dvs) H Q E) : wpAny (model X.prog X.w) X.A (call (.ref f) us) (EP X pins σ Q) X.xe s := by
  have r2 : Vals (vs ++ dvs) (us ++ ds) := r.append hd
  have hl : (us ++ ds).length = ps.length := by rw [← r2.length]; exact F.len _ _ _ _ h
  refine wpAny_call (codeAny_mono (F.run X.A X.stack s H ⟨us, []⟩ (us ++ ds) (vs ++ dvs) Q E hr I.env0 (hb s us I.kIn hl) r2 h) fun r s' hq => ?_)
  cases r with
  | error e => exact hx pins σ H s e s' I hq
  | ok fl =>
    cases fl with
    | ret u => exact I.after hq
    | next => exact False.elim hq
    | brk => exact False.elim hq
    | cont => exact False.elim hq

theorem pe_call (F : FnOk X.prog X.w X.K X.mg X.base CX k f fd ps sp) (hr : Room k X.A) (hg : Gl X x) (hm : X.mg x = some (.ref f)) (hk : PySem.W.keepIn X.K (.ref f) = true) (hb : Binds X.K fd ps ds) (hd : Vals dvs ds) (hx : Passes CX X E)
    (ha : PA X (e :: es) t) (hdb : (x == ("__debug__" : Str)) = false := by decide) (he : starEach (e :: es) X.env = (false, eval e X.env) :: starEach es X.env := by rfl) (hpl : (backTo pos (starEach es X.env)).any (·.1) = false := by rfl) :
    PE X (.Call (.Name x p) (e :: es) [] pos) (tCall sp dvs E t) := by
  intro pins s σ H Q I h
  refine wpAny_Call_Name_kw (ld_glob I hg hm ?_ hdb)
  refine PySem.W.callWith_K (h₀ := X.base) I.ok.mod.kin hk (thn (ha pos pins s σ H _ I h) fun us s1 ⟨vs, H1, I1, r, q⟩ => ⟨I1.kIn, ?_⟩) he hpl
  exact run_fn F hr hb hd hx I1 r q
/-- o.m(e, ..) -/
theorem pe_meth {pl : Sem Bool} (he : PE X o ta) (c : Cls X.K C) (hm : Meth X.K C m f) (F : FnOk X.prog X.w X.K X.mg X.base CX k f fd ps sp) (hr : Room k X.A) (hb : Binds X.K fd ps ds) (hd : Vals dvs ds) (hx : Passes CX X E) (ha : PA X (e :: es) t)
    (hst : starEach (e :: es) X.env = (false, eval e X.env) :: starEach es X.env := by rfl) (hpl : (backTo pos (starEach es X.env)).any (·.1) = false := by rfl)
    (ht : eval (.Call (.Attribute o m apos) (e :: es) [] pos) X.env = (do
      let ov ← eval o X.env
      standAt apos.atName
      let (f, first) ← holding [ov] (getMethod ov m pl)
      callWith pos f first (backTo pos (starEach (e :: es) X.env)) (backToKw pos (keywordEach [] X.env))) := by rfl) :
    PE X (.Call (.Attribute o m apos) (e :: es) [] pos) (tMeth C m sp dvs E ta t) := by
  intro pins s σ H Q I h
  refine PySem.W.methodCall_KW (pl := pl) (thn (he pins s σ H _ I h) fun u s1 ⟨x, H1, I1, rx, a, dx, fs, ex, ea, l, q⟩ => ?_) ht
  subst ex
  obtain rfl : u = Value.ref a := rx
  refine getmeth_ok I1 ea c hm l ?_
  refine PySem.W.callWith_K (first := [.ref a]) (h₀ := X.base) I.ok.mod.kin hm.kp (thn (ha pos pins s1 σ H1 _ I1 q) fun us s2 ⟨vs, H2, I2, r, q2⟩ => ⟨I2.kIn, ?_⟩) hst hpl
  exact run_fn (us := .ref a :: us) (vs := .ref a :: vs) F hr hb hd hx I2 (.cons rfl r) q2
/-- o.m() -/
theorem pe_meth0 {pl : Sem Bool} (he : PE X o ta) (c : Cls X.K C) (hm : Meth X.K C m f) (F : FnOk X.prog X.w X.K X.mg X.base CX k f fd ps sp) (hr : Room k X.A) (hb : Binds X.K fd ps ds) (hd : Vals dvs ds) (hx : Passes CX X E)
    (ht : eval (.Call (.Attribute o m apos) [] [] pos) X.env = (do
      let ov ← eval o X.env
      standAt apos.atName
      let (f, first) ← holding [ov] (getMethod ov m pl)
      callWith pos f first (backTo pos (starEach [] X.env)) (backToKw pos (keywordEach [] X.env))) := by rfl) :
    PE X (.Call (.Attribute o m apos) [] [] pos) (tMeth C m sp dvs E ta tNil) := by
  intro pins s σ H Q I h
  refine PySem.W.methodCall_KW (pl := pl) (thn (he pins s σ H _ I h) fun u s1 ⟨x, H1, I1, rx, a, dx, fs, ex, ea, l, q⟩ => ?_) ht
  subst ex
  obtain rfl : u = Value.ref a := rx
  refine getmeth_ok I1 ea c hm l ?_
  exact PySem.W.callWith_K0 (first := [.ref a]) I1.kIn hm.kp (run_fn (us := [.ref a]) (vs := [.ref a]) F hr hb hd hx I1 (.cons rfl .nil) q)

/-- what a class must have to be made -/
structure Mk (K : PySem.W.Frag) (C f : Addr) : Prop where
  makes : PySem.W.makesIn K C = true
  init : PySem.W.findIn K (.ref C) "__init__" = some (some (.ref f))
  fn : PySem.W.isFn K (.ref f) = true
  kp : PySem.W.keepIn K (.ref C) = true

theorem run_make {pins : List (Addr × Obj)} {σ : St} {H : Hp} {s : Shared} {Q : VK} {us : List Value} {vs : List V} (M : Mk X.K C f) (F : FnOk X.prog X.w X.K X.mg X.base CX k f fd ps sp) (hr : Room (k + 1) X.A) (hb : Binds X.K fd ps ds) (hd : Vals dvs ds)
    (hx : Passes CX X E) (I : Inv X pins σ H s) (r : Vals vs us)
    (h : ∀ x dx, H x = none → H dx = none → dx ≠ x → sp (.ref x :: (vs ++ dvs)) (upd (upd H dx (.own x)) x (.ins C dx [])) (fun v H2 => v = .non ∧ Q (.ref x) H2) E) :
    wpAny (model X.prog X.w) X.A (call (.ref C) us) (EP X pins σ Q) X.xe s := by
  have hq := h (s.heap.objs.size + 1) s.heap.objs.size (I.hok.fresh (Nat.le_succ _)) (I.hok.fresh (Nat.le_refl _)) (Nat.ne_of_lt (Nat.lt_succ_self _))
  have I2 := Inv.made (C := C) I
  have r2 : Vals (V.ref (s.heap.objs.size + 1) :: (vs ++ dvs)) (Value.ref (s.heap.objs.size + 1) :: (us ++ ds)) := .cons rfl (r.append hd)
  have hl : (Value.ref (s.heap.objs.size + 1) :: us ++ ds).length = ps.length := by
    have e := r2.length
    rw [F.len _ _ _ _ hq] at e
    exact e.symm
  refine wpAny_call (make_map (f := f) I.kIn M.makes M.init (beq_iff_eq.mp M.fn) (codeAny_mono (F.run _ X.stack _ _ ⟨Value.ref (s.heap.objs.size + 1) :: us, []⟩ (Value.ref (s.heap.objs.size + 1) :: (us ++ ds)) _ _ E (hr.make C us [])
    (I2.env0.make C us []) (hb _ (Value.ref (s.heap.objs.size + 1) :: us) I2.kIn hl) r2 hq) fun r s' hq' => ?_))
  cases r with
  | error e => exact hx pins σ _ _ e s' I2 hq'
  | ok fl =>
    cases fl with
    | ret u =>
      obtain ⟨v, H', I3, rv, ev, q3⟩ := I2.after hq'
      subst ev
      exact ⟨rv, ⟨V.ref (s.heap.objs.size + 1), H', I3, rfl, q3⟩⟩
    | next => exact False.elim hq'
    | brk => exact False.elim hq'
    | cont => exact False.elim hq'
theorem pe_make0 (M : Mk X.K C f) (F : FnOk X.prog X.w X.K X.mg X.base CX k f fd ps sp) (hr : Room (k + 1) X.A) (hg : Gl X x) (hm : X.mg x = some (.ref C)) (hb : Binds X.K fd ps ds) (hd : Vals dvs ds) (hx : Passes CX X E)
    (hdb : (x == ("__debug__" : Str)) = false := by decide) : PE X (.Call (.Name x p) [] [] pos) (tMake C sp dvs E tNil) := by
  intro pins s σ H Q I h
  refine wpAny_Call_Name_kw (ld_glob I hg hm ?_ hdb)
  exact PySem.W.callWith_K0 I.kIn M.kp (run_make (us := []) M F hr hb hd hx I .nil h)
end

/-! ### keywords -/
/-- the values of the keywords, from the left -/
def PK (X : Cx) (kws : List Keyword) (t : TA) : Prop :=
  ∀ (pos : Pos) (pins : List (Addr × Obj)) (s : Shared) (σ : St) (H : Hp) (Q : List V → Hp → Prop), Inv X pins σ H s → t σ H Q → wpAny (model X.prog X.w) X.A (evalAll ((backToKw pos (keywordEach kws X.env)).map (·.2))) (AP X pins σ Q) X.xe s
section
variable {X : Cx} {CX : CXT} {k : Nat} {f C : Addr} {fd : FuncData} {ps ks : List Str} {sp : Sp} {E : XK} {x m : Str} {p pos apos kpos : Pos} {e o : Expr} {es : List Expr} {kws : List Keyword} {te ta : TE} {t tk : TA} {nm : Option Str}
/-- how a call with keywords binds: g puts the positional values us and the keywords' values ws (names ks) in the parameters' order, defaults among them -/
structure KBinds (K : PySem.W.Frag) (fd : FuncData) (ps ks : List Str) (g : List Value → List Value → List Value) (gV : List V → List V → List V) : Prop where
  to : ∀ (s : Shared) (us ws : List Value), K.In s.heap → (g us ws).length = ps.length → BindsTo s fd ⟨us, ks.zip ws⟩ (ps.zip (g us ws))
  rel : ∀ {vs : List V} {us : List Value} {zs : List V} {ws : List Value}, Vals vs us → Vals zs ws → Vals (gV vs zs) (g us ws)
def tCallK (sp : Sp) (gV : List V → List V → List V) (E : XK) (t tk : TA) : TE := fun σ H Q => t σ H fun vs H1 => tk σ H1 fun zs H2 => sp (gV vs zs) H2 Q E
variable {g : List Value → List Value → List Value} {gV : List V → List V → List V}
end

/-! ### a def's body keeps its promise -/
/-- names: the parameters first -/
structure FnScope (N P : List Str) (sc : Scope) : Prop where
  kind : sc.kind = .function
  co : sc.isCoroutine = false
  gen : sc.isGenerator = false
  nd : N.Nodup
  pre : N.take P.length = P
  par : ∀ x ∈ P, sc.names.lookup x = some .local ∨ sc.names.lookup x = some .cell
  nofree : ∀ y ∈ sc.names, y.2 ≠ .free

theorem bindL_out {kindOf : Str → Option NameKind} {x : Str} : ∀ {binds : List (Str × Value)} {m : Str → Option Value}, (∀ v, (x, v) ∉ binds) → bindL kindOf binds m x = m x
  | [], _, _ => rfl
  | (n, v) :: r, m, h => by
    unfold bindL
    rw [bindL_out fun w hw => h w (List.mem_cons_of_mem _ hw)]
    split
    · have : x ≠ n := by rintro rfl; exact h v List.mem_cons_self
      simp [this]
    · rfl
theorem bindC_out {kindOf : Str → Option NameKind} {x : Str} : ∀ {binds : List (Str × Value)} {m : Str → Option Value}, (∀ v, (x, v) ∉ binds) → bindC kindOf binds m x = m x
  | [], _, _ => rfl
  | (n, v) :: r, m, h => by
    unfold bindC
    rw [bindC_out fun w hw => h w (List.mem_cons_of_mem _ hw)]
    split
    · rfl
    · have : x ≠ n := by rintro rfl; exact h v List.mem_cons_self
      simp [this]
theorem bindL_get {kindOf : Str → Option NameKind} {x : Str} {v : Value} : ∀ {P : List Str} {vs : List Value} {i : Nat} {m : Str → Option Value}, P.Nodup → P[i]? = some x → vs[i]? = some v → kindOf x = some .local →
    bindL kindOf (P.zip vs) m x = some v
  | [], _, _, _, _, h, _, _ => by simp at h
  | _ :: _, [], _, _, _, _, h, _ => by simp at h
  | p :: P, w :: vs, 0, m, nd, h1, h2, hk => by
    simp at h1 h2; subst h1; subst h2
    show bindL kindOf ((p, w) :: P.zip vs) m p = _
    unfold bindL
    rw [bindL_out fun v hv => (List.nodup_cons.mp nd).1 (List.of_mem_zip hv).1, if_pos hk]
    simp
  | p :: P, w :: vs, i + 1, m, nd, h1, h2, hk => by
    show bindL kindOf ((p, w) :: P.zip vs) m x = _
    unfold bindL
    exact bindL_get (i := i) (List.nodup_cons.mp nd).2 (by simpa using h1) (by simpa using h2) hk
theorem bindC_get {kindOf : Str → Option NameKind} {x : Str} {v : Value} : ∀ {P : List Str} {vs : List Value} {i : Nat} {m : Str → Option Value}, P.Nodup → P[i]? = some x → vs[i]? = some v → kindOf x ≠ some .local →
    bindC kindOf (P.zip vs) m x = some v
  | [], _, _, _, _, h, _, _ => by simp at h
  | _ :: _, [], _, _, _, _, h, _ => by simp at h
  | p :: P, w :: vs, 0, m, nd, h1, h2, hk => by
    simp at h1 h2; subst h1; subst h2
    show bindC kindOf ((p, w) :: P.zip vs) m p = _
    unfold bindC
    rw [bindC_out fun v hv => (List.nodup_cons.mp nd).1 (List.of_mem_zip hv).1, if_neg hk]
    simp
  | p :: P, w :: vs, i + 1, m, nd, h1, h2, hk => by
    show bindC kindOf ((p, w) :: P.zip vs) m x = _
    unfold bindC
    exact bindC_get (i := i) (List.nodup_cons.mp nd).2 (by simpa using h1) (by simpa using h2) hk

/-- the names' values at the entry -/
def start (N : List Str) (vs : List V) : St := vs.map some ++ List.replicate (N.length - vs.length) none

/-- the context of a def's body, at its entry; an exception leaves the frame, then lies as CX says -/
def cxOf (CX : CXT) (P : Program) (w : World) (K : PySem.W.Frag) (mg : Str → Option Value) (base : Heap) (N : List Str) (qual : Str) (scope : Scope) (f : Addr) (cd : Value) (A : Around) (outer : List Env) (s : Shared) (H : Hp) (E : XK) : Cx where
  prog := P
  w := w
  K := K
  mg := mg
  base := base
  A := A.deeper (envOfC qual scope s.heap.objs.size f cd)
  N := N
  s_0 := s
  H_0 := H
  env := envOfC qual scope s.heap.objs.size f cd
  outer := outer
  stack := envOfC qual scope s.heap.objs.size f cd :: outer
  ex := []
  calm := true
  fn := fun _ => true
  pn := []
  xe := fun e s' => wpAny (model P w) (A.deeper (envOfC qual scope s.heap.objs.size f cd)) (leaving (envOfC qual scope s.heap.objs.size f cd) e) (fun _ s'' => CX outer H s E e s'') (fun e' s'' => CX outer H s E e' s'') s'

theorem cell_has {sc : Scope} {n : Nat} {x : Str} (h : sc.names.lookup x = some .cell) : ∃ c, (cellsFrom n sc.names []).lookup x = some c := by
  have q := PySem.W.cellsFrom_some sc.names n [] (.inl h)
  exact Option.isSome_iff_exists.mp q

theorem inv_start {CX : CXT} {P : Program} {w : World} {K : PySem.W.Frag} {mg : Str → Option Value} {base : Heap} {N ps : List Str} {qual : Str} {scope : Scope} {f : Addr} {cd : Value} {A : Around} {outer : List Env} {s s1 : Shared} {H : Hp} {E : XK} {us : List Value} {vs : List V}
    (S : FnScope N ps scope) (hd : A.handled = none) (e0 : Env0 P w K mg base A outer s H) (hl : vs.length = ps.length) (r : Vals vs us)
    (x : InCallC s s.heap.objs.size (bindL (envOfC qual scope s.heap.objs.size f cd).kindOf (ps.zip us) fun _ => none) (cellsFrom (s.heap.objs.size + 1) scope.names []) (bindC (envOfC qual scope s.heap.objs.size f cd).kindOf (ps.zip us) fun _ => none) s1) :
    Inv (cxOf CX P w K mg base N qual scope f cd A outer s H E) [] (start N vs) H s1 := by
  have hpl : ps.length ≤ N.length := by have := congrArg List.length S.pre; rw [List.length_take] at this; omega
  obtain ⟨h1, tk, rfl, hk⟩ := x.done
  have noA : ∀ b : Addr, b ∉ (cxOf CX P w K mg base N qual scope f cd A outer s H E).ex := fun b z => absurd (show b ∈ ([] : List Addr) from z) (by simp)
  refine ⟨⟨e0.mod, S.kind, rfl, rfl, Nat.le_refl _, fun y z c h1 h2 => ?_, fun y hy => ?_, fun y c _ h => ?_, fun _ => hd, Around.frames_deeper e0.frames, .inr ⟨rfl, rfl⟩, fun b z => absurd z (noA b), e0.bs, e0.bsz, fun b _ _ => noA b, fun b z => absurd z (noA b), e0.funs, e0.frf⟩,
    rfl, e0.bare, Un.kept hk, ⟨_, x.toInCall.ns, fun i y v h1 h2 h3 => ?_⟩, fun y c h => ⟨_, x.cell y c h⟩, e0.hok.fresh (Nat.le_refl _), fun y c h => ?_, fun p hp => absurd (show p ∈ ([] : List (Addr × Obj)) from hp) (by simp), e0.hok.kept hk, ?_⟩
  · exact name_of_addr x.apart (PySem.mem_of_lookup h1) (PySem.mem_of_lookup h2)
  · have hy : scope.names.lookup y = some .cell ∨ scope.names.lookup y = some .free := hy
    rcases hy with hy | hy
    · exact cell_has hy
    · exact absurd rfl (S.nofree _ (PySem.mem_of_lookup hy))
  · exact Nat.le_of_lt (x.above y c (PySem.mem_of_lookup h))
  · have hi : i < vs.length := by
      unfold start at h2
      by_cases hi : i < vs.length
      · exact hi
      · rw [List.getElem?_append_right (by simpa using hi)] at h2
        rw [List.getElem?_replicate] at h2
        split at h2 <;> cases h2
    have ha : vs[i]? = some v := by
      unfold start at h2
      rw [List.getElem?_append_left (by simpa using hi), List.getElem?_map] at h2
      cases e : vs[i]? with
      | none => rw [e] at h2; cases h2
      | some a => rw [e] at h2; cases h2; rfl
    obtain ⟨u, hu, rv⟩ := r.get ha
    have hp : ps[i]? = some y := by
      rw [← S.pre, List.getElem?_take_of_lt (by omega)]; exact h1
    have ndP : ps.Nodup := by rw [← S.pre]; exact S.nd.sublist (List.take_sublist _ _)
    refine ⟨u, rv, ?_⟩
    rcases S.par y (List.mem_of_getElem? hp) with k | k
    · exact .inl ⟨k, bindL_get ndP hp hu k⟩
    · obtain ⟨c, e⟩ := cell_has (n := s.heap.objs.size + 1) k
      refine .inr ⟨.inl k, c, e, ?_⟩
      have q := x.cell y c e
      rw [bindC_get ndP hp hu (by show scope.names.lookup y ≠ _; rw [k]; decide)] at q
      exact q
  · exact e0.hok.fresh (Nat.le_of_lt (x.above y c (PySem.mem_of_lookup h)))
  · unfold start
    show _ = N.length
    rw [List.length_append, List.length_map, List.length_replicate]
    omega

/-- THE RULE: a def (or a method) of the text, by its body. The body's reading t is chosen for each entry; it is run at the parameters' values -/
theorem fn_of {CX : CXT} {P : Program} {w : World} {K : PySem.W.Frag} {mg : Str → Option Value} {base : Heap} {k : Nat} {f : Addr} {name qual : Str} {params : Arguments} {body : List Stmt} {scope : Scope} {dV kV doc pm cdv ct oc : Value} {an od : Option Addr}
    {osl : Array (Option Value)} {N ps : List Str} {sp : Sp} (lk : K.lookup f = some ⟨oc, od, .func (PySem.W.fnOf name qual params body scope dV kV doc pm an cdv ct), osl⟩) (hcd : PySem.W.codeIn K cdv qual = true) (S : FnScope N ps scope)
    (len : ∀ vs H Q E, sp vs H Q E → vs.length = ps.length)
    (hbody : ∀ (A : Around) (outer : List Env) (s : Shared) (H : Hp) (vs : List V) (Q : VK) (E : XK), Room k (A.deeper (envOfC qual scope s.heap.objs.size f cdv)) → sp vs H Q E →
      ∃ t, PSs (cxOf CX P w K mg base N qual scope f cdv A outer s H E) body t ∧ t { nx := fun _ H' => Q .non H', rt := Q } (start N vs) H) :
    FnOk P w K mg base CX (k + 1) f (PySem.W.fnOf name qual params body scope dV kV doc pm an cdv ct) ps sp := by
  refine ⟨len, fun A outer s H args us vs Q E hr e0 hb r hsp => ?_⟩
  have hl := len _ _ _ _ hsp
  have KX : K.In s.heap := e0.mod.kin.keeps fun b o e => (e0.bs b o e).1
  have lim : s.heap.NoLimit := e0.mod.nolimit.keeps fun b o e => (e0.bs b o e).1
  have hkind : ∀ y ∈ ps.zip us, scope.names.lookup y.1 = some .local ∨ (scope.names.lookup y.1 = some .cell ∧ ((cellsFrom (s.heap.objs.size + 1) scope.names []).lookup y.1).isSome = true) := fun ⟨n, v⟩ hy => by
    rcases S.par n (List.of_mem_zip hy).1 with q | q
    · exact .inl q
    · exact .inr ⟨q, PySem.W.cellsFrom_some _ _ _ (.inl q)⟩
  refine codeAny_call_function hr.depth (KX _ _ lk) rfl S.co S.gen rfl (PySem.W.codeRec_of KX hcd) (hb _ _ _ _ ?_)
  refine wpAny_newFunctionEnv_cells S.kind hkind fun env he s1 x => ?_
  subst he
  refine ⟨lim.keeps x.toInCall.keep, codeAny_func ?_⟩
  obtain ⟨t, ht, hq⟩ := hbody A outer s H vs Q E (hr.deeper _) hsp
  have I : Inv (cxOf CX P w K mg base N qual scope f cdv A outer s H E) [] (start N vs) H s1 := inv_start S hr.hd e0 hl r x
  refine wpAny_mono (ht [] s1 (start N vs) H _ I hq) (fun fl s' hs => ?_) fun e s' hs => hs
  have fin : ∀ {σ' : St} {H' : Hp} {v : V} {u : Value}, Inv (cxOf CX P w K mg base N qual scope f cdv A outer s H E) [] σ' H' s' → RelV v u → Q v H' → CE outer P w H s Q u s' :=
    fun {σ' H' v u} J rv q => ⟨v, H', J.os, J.bare, J.base, J.hok, rv, q⟩
  cases fl with
  | ret u =>
    obtain ⟨v, σ', H', J, rv, q⟩ := hs
    exact fin J rv q
  | next =>
    obtain ⟨σ', H', J, q⟩ := hs
    exact fin (v := V.non) (u := Value.none) J rfl q
  | brk =>
    obtain ⟨_, _, _, q⟩ := hs
    exact False.elim q
  | cont =>
    obtain ⟨_, _, _, q⟩ := hs
    exact False.elim q
end L2

namespace L2
open PySem PySem.Spec PyProof.Rows
section
variable {X : Cx} {x : Str} {p pos : Pos} {e : Expr} {es : List Expr} {t : TA} {id T : String} {r : List V → Hp → VK → Prop}

def tCB (r : List V → Hp → VK → Prop) (t : TA) : TE := fun σ H Q => t σ H fun vs H1 => r vs H1 Q
/-- f(e, ..), f a built-in function -/
theorem pe_callB (hc : CallR X (.builtin id) r) (hg : Gl X x) (hm : X.mg x = none) (hv : bootBuiltins x = some (.builtin id)) (ha : PA X (e :: es) t) (hn : x ≠ "__name__" := by decide) (hdb : (x == ("__debug__" : Str)) = false := by decide)
    (he : starEach (e :: es) X.env = (false, eval e X.env) :: starEach es X.env := by rfl) (hpl : (backTo pos (starEach es X.env)).any (·.1) = false := by rfl) : PE X (.Call (.Name x p) (e :: es) [] pos) (tCB r t) := by
  intro pins s σ H Q I h
  refine wpAny_Call_Name_kw (ld_blt I hg hm hv ?_ hn hdb)
  exact PyProof.Rows.callWith_builtin1 (thn (ha pos pins s σ H _ I h) fun us s1 ⟨vs, H1, I1, r1, q1⟩ => hc pins s1 σ H1 vs us Q I1 r1 q1) he hpl
/-- T(e, ..), T a built-in type -/
theorem pe_callTy (hc : CallR X (.type T) r) (hg : Gl X x) (hm : X.mg x = none) (hv : bootBuiltins x = some (.type T)) (ha : PA X (e :: es) t) (hn : x ≠ "__name__" := by decide) (hdb : (x == ("__debug__" : Str)) = false := by decide)
    (he : starEach (e :: es) X.env = (false, eval e X.env) :: starEach es X.env := by rfl) (hpl : (backTo pos (starEach es X.env)).any (·.1) = false := by rfl) : PE X (.Call (.Name x p) (e :: es) [] pos) (tCB r t) := by
  intro pins s σ H Q I h
  refine wpAny_Call_Name_kw (ld_blt I hg hm hv ?_ hn hdb)
  exact PyProof.Rows.callWith_type1 (thn (ha pos pins s σ H _ I h) fun us s1 ⟨vs, H1, I1, r1, q1⟩ => hc pins s1 σ H1 vs us Q I1 r1 q1) he hpl
end
end L2

namespace HT
open PySem PyProof.Rows

/-- t < u of tuples of ints -/
def lexLt : List Int → List Int → Bool
  | [], [] => false
  | [], _ :: _ => true
  | _ :: _, [] => false
  | x :: xs, y :: ys => if x = y then lexLt xs ys else decide (x < y)
section
open PySem.SeqAt
open PySem.AutoSeq1 (wpAny_loadPart')
open PySem.MeetsSeq PySem.MeetsSeq2 PySem.MeetsSeq3

end

section
variable {prog : Program} {w : World} {A : Around} {E : Value → Shared → Prop} {s : Shared}

/-! ### t[a:b], not the whole -/
/-- a slice's bound as a place among n (d where it is left out) -/
def sIx (n d : Nat) : Option Int → Nat
  | none => d
  | some v => if v < 0 then (v + (n : Int)).toNat else min v.toNat n
theorem sIx_none (n d : Nat) : sIx n d none = d := rfl
theorem sIx_nat (n d k : Nat) : sIx n d (some (k : Int)) = min k n := by
  show (if (k : Int) < 0 then ((k : Int) + (n : Int)).toNat else min (k : Int).toNat n) = min k n
  rw [if_neg (by omega), Int.toNat_natCast]
end
end HT

namespace L2
open PySem PySem.Spec PyProof.Rows

/-! ### the parts of a slice -/
abbrev TO := St → Hp → (Option Int → Hp → Prop) → Prop
/-- a slice's part (left out, or an int) -/
def PO (X : Cx) (e : Option Expr) (t : TO) : Prop :=
  ∀ (pins : List (Addr × Obj)) (s : Shared) (σ : St) (H : Hp) (Q : Option Int → Hp → Prop), Inv X pins σ H s → t σ H Q →
    wpAny (model X.prog X.w) X.A (evalPart e X.env) (fun u s' => ∃ o H', Inv X pins σ H' s' ∧ IsPart u o ∧ Q o H') X.xe s
def tNoPart : TO := fun _ H Q => Q none H
def tPart (t : TE) : TO := fun σ H Q => t σ H fun x H1 => ∃ i, x = .int i ∧ Q (some i) H1

section
variable {X : Cx} {e : Expr} {te : TE} {lo hi : Option Expr} {tl th : TO} {pos p2 : Pos}

theorem po_none : PO X none tNoPart := by
  intro pins s σ H Q I h
  rw [evalPart_none]
  exact wpAny_pure ⟨none, H, I, .none, h⟩
theorem po_some (h : PE X e te) : PO X (some e) (tPart te) := by
  intro pins s σ H Q I hw
  rw [evalPart_some]
  refine thn (h pins s σ H _ I hw) fun u s1 ⟨x, H1, I1, r1, q1⟩ => ?_
  obtain ⟨i, rfl, q⟩ := q1
  obtain ⟨t, rfl⟩ := r1
  exact ⟨some i, H1, I1, .int i t, q⟩

/-- what a slice of a value is, by values: the slice object stands at sl -/
def SlR (X : Cx) (r : V → Option Int → Option Int → Hp → VK → Prop) : Prop :=
  ∀ (pins : List (Addr × Obj)) (s : Shared) (σ : St) (H : Hp) (x : V) (v vl vu : Value) (lo hi : Option Int) (sl : Addr) (Q : VK), Inv X pins σ H s → RelV x v → s.heap.IsSliceOf sl vl vu .none → IsPart vl lo → IsPart vu hi → r x lo hi H Q →
    ∃ T id, typeLookup (.type T) "__getitem__" = pure (some (.builtin id)) ∧ s.TypeIs v T ∧ wpAny (model X.prog X.w) X.A (getItem v (.ref sl)) (EP X pins σ Q) X.xe s
def tSl (r : V → Option Int → Option Int → Hp → VK → Prop) (te : TE) (tl th : TO) : TE := fun σ H Q => te σ H fun x H1 => tl σ H1 fun l H2 => th σ H2 fun u H3 => r x l u H3 Q
/-- a[lo:hi], any a -/
theorem pe_slice {r : V → Option Int → Option Int → Hp → VK → Prop} (hr : SlR X r) (he : PE X e te) (hl : PO X lo tl) (hu : PO X hi th) : PE X (.Subscript e (.Slice lo hi none p2) pos) (tSl r te tl th) := by
  intro pins s σ H Q I h
  refine Subscript_ (thn (he pins s σ H _ I h) fun v s1 ⟨x, H1, I1, r1, q1⟩ => ?_)
  refine wpAny_Slice (thn (hl pins s1 σ H1 _ I1 q1) fun vl s2 ⟨l, H2, I2, pl, q2⟩ => thn (hu pins s2 σ H2 _ I2 q2) fun vu s3 ⟨u, H3, I3, pu, q3⟩ => ?_)
  rw [evalPart_none]
  refine wpAny_pure ?_
  have I4 : Inv X pins σ H3 { s3 with heap := s3.heap.push { cls := .type "slice", data := .fields #[vl, vu, .none] } } := I3.kept (t' := s3.toks) fun b ob q => Heap.get?_push_of_some _ q
  obtain ⟨T, id, hT, ht, hg⟩ := hr pins { s3 with heap := s3.heap.push { cls := .type "slice", data := .fields #[vl, vu, .none] } } σ H3 x v vl vu l u s3.heap.objs.size Q I4 r1 (Heap.IsSliceOf.new ..) pl pu q3
  show wpAny (model X.prog X.w) X.A (subscriptTail e (.Slice lo hi none p2) v (.ref s3.heap.objs.size)) (EP X pins σ Q) X.xe { s3 with heap := s3.heap.push { cls := .type "slice", data := .fields #[vl, vu, .none] } }
  exact tail_any (ops := [.ref s3.heap.objs.size, v]) ht hT hg (by with_unfolding_all rfl)

/-- the items of xs[lo:hi] -/
def cutV (xs : List V) (lo hi : Option Int) : List V := (xs.drop (HT.sIx xs.length 0 lo)).take (HT.sIx xs.length xs.length hi - HT.sIx xs.length 0 lo)
theorem cutV_length (xs : List V) (lo hi : Option Int) : (cutV xs lo hi).length ≤ xs.length := by
  unfold cutV
  rw [List.length_take, List.length_drop]
  omega
/-- t[lo:hi], not the whole of it (the whole would be t itself) -/
def rSlT (K : PySem.W.Frag) : V → Option Int → Option Int → Hp → VK → Prop := fun x lo hi H Q => ∃ a xs, x = .ref a ∧ SqT K H a xs ∧
  ¬ (HT.sIx xs.length 0 lo = 0 ∧ HT.sIx xs.length xs.length hi = xs.length) ∧ ∀ p, H p = none → Q (.ref p) (upd H p (.tup (cutV xs lo hi)))
/-! ### t < u, t + u -/
def rLtT (K : PySem.W.Frag) : R2 := fun x y H Q => ∃ a b ns ms, x = .ref a ∧ y = .ref b ∧ SqT K H a (ns.map V.int) ∧ SqT K H b (ms.map V.int) ∧ Q (.bl (HT.lexLt ns ms)) H
/-- t + u, t not empty: u empty gives t itself -/
def rCatT (K : PySem.W.Frag) : R2 := fun x y H Q => ∃ a b xs ys, x = .ref a ∧ y = .ref b ∧ SqT K H a xs ∧ SqT K H b ys ∧ xs ≠ [] ∧ xs.length + ys.length ≤ sizeLine ∧
  (ys = [] → Q (.ref a) H) ∧ (ys ≠ [] → ∀ p, H p = none → Q (.ref p) (upd H p (.tup (xs ++ ys))))
end
end L2

namespace L2
open PySem PySem.Spec PyProof.Rows

/-! ### places -/
/-- the place that an index of any sign means -/
def ixN (n : Nat) (i : Int) : Option Nat := if 0 ≤ i then (if i < n then some i.toNat else none) else if -(n : Int) ≤ i then some (i + n).toNat else none
def atI {α : Type} (xs : List α) (i : Int) : Option α := (ixN xs.length i).bind fun j => xs[j]?
theorem ixN_seq {n : Nat} {i : Int} {j : Nat} (h : ixN n i = some j) : seqIndex? i n = some j ∧ j < n ∧ -(n : Int) ≤ i ∧ i < n := by
  unfold ixN at h
  by_cases h0 : 0 ≤ i
  · rw [if_pos h0] at h
    by_cases h1 : i < n
    · rw [if_pos h1] at h
      have e : i.toNat = j := Option.some.inj h
      exact ⟨by rw [seqIndex_of h0 h1, e], by omega, by omega, h1⟩
    · rw [if_neg h1] at h; cases h
  · rw [if_neg h0] at h
    by_cases h1 : -(n : Int) ≤ i
    · rw [if_pos h1] at h
      have e : (i + n).toNat = j := Option.some.inj h
      exact ⟨by rw [seqIndex_neg (by omega) h1, e], by omega, h1, by omega⟩
    · rw [if_neg h1] at h; cases h
theorem atI_get {α : Type} {xs : List α} {i : Int} {v : α} (h : atI xs i = some v) : ∃ j, seqIndex? i xs.length = some j ∧ xs[j]? = some v ∧ j < xs.length ∧ -(xs.length : Int) ≤ i ∧ i < xs.length := by
  unfold atI at h
  cases e : ixN xs.length i with
  | none => rw [e] at h; cases h
  | some j =>
    rw [e] at h
    obtain ⟨h1, h2, h3, h4⟩ := ixN_seq e
    exact ⟨j, h1, h, h2, h3, h4⟩
theorem atI_nat {α : Type} {xs : List α} {j : Nat} {v : α} (h : xs[j]? = some v) : atI xs (j : Int) = some v := by
  have hj : j < xs.length := (List.getElem?_eq_some_iff.mp h).1
  have e : ixN xs.length (j : Int) = some j := by
    unfold ixN
    rw [if_pos (by omega), if_pos (by omega)]; simp
  unfold atI; rw [e]; exact h
/-! ### what may be subscripted -/
/-- what stands as an index of a plain subscript -/
def PlainIx (b : Expr) : Prop := ∀ o i, subscripted b false o i = operate [o, i] (getItem o i)
/-- a subscript by values -/
def IxR (X : Cx) (r : R2) : Prop :=
  ∀ (value slice : Expr) (pins : List (Addr × Obj)) (s : Shared) (σ : St) (H : Hp) (x y : V) (v u : Value) (Q : VK), Inv X pins σ H s → RelV x v → RelV y u → r x y H Q →
    subscripted slice false v u = operate [v, u] (getItem v u) → wpAny (model X.prog X.w) X.A (subscriptTail value slice v u) (EP X pins σ Q) X.xe s
/-- a call of a builtin's method by values: the receiver, the arguments -/
def MtR (X : Cx) (id : String) (r : V → List V → Hp → VK → Prop) : Prop :=
  ∀ (pins : List (Addr × Obj)) (s : Shared) (σ : St) (H : Hp) (x : V) (xs : List V) (v : Value) (us : List Value) (Q : VK), Inv X pins σ H s → RelV x v → Vals xs us → r x xs H Q →
    wpAny (model X.prog X.w) X.A (call (.builtin id) (v :: us)) (EP X pins σ Q) X.xe s
section
variable {X : Cx} {a b : Expr} {ta tb : TE} {pos : Pos}
/-- a[b] -/
theorem pe_ix {r : R2} (hr : IxR X r) (ha : PE X a ta) (hb : PE X b tb) (hs : PlainIx b) : PE X (.Subscript a b pos) (tOp r ta tb) := by
  intro pins s σ H Q I h
  exact Subscript_ (binT ha hb I h fun v u s2 x y H2 I2 rx ry q => hr a b pins s2 σ H2 x y v u Q I2 rx ry q (hs _ _))

def rIxL (K : PySem.W.Frag) : R2 := fun x y H Q => ∃ p xs i v, x = .ref p ∧ y = .int i ∧ SqL K H p xs ∧ atI xs i = some v ∧ Q v H
def rIxT (K : PySem.W.Frag) : R2 := fun x y H Q => ∃ p xs i v, x = .ref p ∧ y = .int i ∧ SqT K H p xs ∧ atI xs i = some v ∧ Q v H
def rIxS : R2 := fun x y H Q => ∃ z i c, x = .str z ∧ y = .int i ∧ z.length ≤ sizeLine ∧ atI z.cps.toList i = some c ∧ Q (.str ⟨#[c]⟩) H
theorem ix_list : IxR X (rIxL X.K) := by
  intro value slice pins s σ H x y v u Q I rx ry h hs
  obtain ⟨p, xs, i, z, rfl, rfl, hq, he, q⟩ := h
  cases rx
  obtain ⟨t, rfl⟩ := ry
  obtain ⟨its, r, pl, hz⟩ := I.list hq
  obtain ⟨j, h1, h2, h3, h4, h5⟩ := atI_get he
  obtain ⟨w, ew, rw'⟩ := r.get h2
  have hl := r.length
  have hn := line63
  have fin : EP X pins σ Q w s := ⟨z, H, I, rw', q⟩
  by_cases h0 : 0 ≤ i
  · have hj : i.toNat = j := by
      rw [seqIndex_of h0 h5] at h1
      exact Option.some.inj h1
    exact item_listR pl.isList h0 (by omega) (by rw [hj]; simpa using ew) fin hs
  · have hj : (i + (its.toArray.size : Int)).toNat = j := by
      rw [seqIndex_neg (by omega) h4] at h1
      rw [List.size_toArray, ← hl]
      exact Option.some.inj h1
    exact subscriptTail_builtinR (x := w) pl.isList.typeIs slot_list_getitem.lookup
      (wpAny_getItem_list_neg (Q := fun r s' => r = w ∧ EP X pins σ Q r s') pl.isList (by omega) (by rw [List.size_toArray] <;> omega) (by omega) (by rw [hj]; simpa using ew) ⟨rfl, fin⟩) hs
theorem ix_tup : IxR X (rIxT X.K) := by
  intro value slice pins s σ H x y v u Q I rx ry h hs
  obtain ⟨p, xs, i, z, rfl, rfl, hq, he, q⟩ := h
  cases rx
  obtain ⟨t, rfl⟩ := ry
  obtain ⟨its, r, pl, hz⟩ := I.tuple hq
  obtain ⟨j, h1, h2, h3, h4, h5⟩ := atI_get he
  obtain ⟨w, ew, rw'⟩ := r.get h2
  have hl := r.length
  have hn := line63
  have fin : EP X pins σ Q w s := ⟨z, H, I, rw', q⟩
  exact subscriptTail_builtinR (x := w) pl.typeIs slot_tuple_getitem.lookup
    (getItem_tuple (j := j) (Q := fun r s' => r = w ∧ EP X pins σ Q r s') pl (by omega) (by omega) (by rw [List.size_toArray, ← hl]; exact h1) (by simpa using ew) ⟨rfl, fin⟩) hs
/-- list, tuple or str -/
def rIx (K : PySem.W.Frag) : R2 := fun x y H Q => rIxL K x y H Q ∨ rIxT K x y H Q ∨ rIxS x y H Q
/-! ### xs[i] = v, any sign -/
/-- the list's object behind a store -/
theorem mapSeq_set (its : List Value) (n j : Nat) (u : Value) : Obj.mapSeq (·.setIfInBounds j u) { cls := .type "list", data := .seq its.toArray n } = { cls := .type "list", data := .seq (its.set j u).toArray n } := by
  simp [Obj.mapSeq]
theorem Inv.lst {pins : List (Addr × Obj)} {σ : St} {H : Hp} {s : Shared} {p : Addr} {xs : List V} (I : Inv X pins σ H s) (h : H p = some (.lst xs)) :
    ∃ (its : List Value) (n : Nat), Vals xs its ∧ s.heap.get? p = some { cls := .type "list", data := .seq its.toArray n } ∧ xs.length ≤ sizeLine := by
  obtain ⟨z, its, n, r, e⟩ := I.hok p _ h
  exact ⟨its, n, r, e, z⟩
/-- the list at p is written by an update of its object -/
theorem Inv.lstUpd {pins : List (Addr × Obj)} {σ : St} {H : Hp} {s : Shared} {p : Addr} {xs ys : List V} {its its' : List Value} {n n' : Nat} {f : Obj → Obj} (I : Inv X pins σ H s) (h : H p = some (.lst xs))
    (ho : s.heap.get? p = some { cls := .type "list", data := .seq its.toArray n }) (hf : f { cls := .type "list", data := .seq its.toArray n } = { cls := .type "list", data := .seq its'.toArray n' }) (r : Vals ys its') (hz : ys.length ≤ sizeLine) (t : Nat) :
    Inv X pins σ (upd H p (.lst ys)) { s with heap := s.heap.update p f, toks := t } := by
  have e : (s.heap.update p f).get? p = some { cls := .type "list", data := .seq its'.toArray n' } := by
    rw [Heap.get?_update_self f ho (by rw [hf] <;> rfl), hf]
  refine I.write (x := p) (e := p) (by rw [h]; trivial) (.inl rfl) (fun b u hb q => (Heap.get?_update_other _ _ (Ne.symm hb)).trans q) ⟨_, e⟩ ?_
  exact ⟨hz, its', n', r, e⟩
def rSetL : V → V → V → Hp → (Hp → Prop) → Prop := fun o i v H Q => ∃ p xs k j, o = .ref p ∧ i = .int k ∧ H p = some (.lst xs) ∧ ixN xs.length k = some j ∧ Q (upd H p (.lst (xs.set j v)))
theorem set_list : PSet X rSetL := by
  intro pins s σ H o i v ov iv u Q I ro ri rv h
  obtain ⟨p, xs, k, j, rfl, rfl, hp, hj, q⟩ := h
  cases ro
  obtain ⟨t, rfl⟩ := ri
  obtain ⟨its, n, r, ho, hz⟩ := I.lst hp
  obtain ⟨h1, h2, h3, h4⟩ := ixN_seq hj
  have hl := r.length
  have hn := line63
  have I' : Inv X pins σ (upd H p (.lst (xs.set j v))) { s with heap := s.heap.update p (Obj.mapSeq (·.setIfInBounds j u)) } :=
    I.lstUpd hp ho (mapSeq_set its n j u) (r.set rv j) (by rw [List.length_set]; exact hz) s.toks
  by_cases h0 : 0 ≤ k
  · have hk : k.toNat = j := by
      rw [seqIndex_of h0 h4] at h1
      exact Option.some.inj h1
    exact PySem.W.ki_setAt ho h0 (by omega) (by rw [List.size_toArray, ← hl]; exact h4) (by rw [hk]; exact ⟨_, I', q⟩)
  · have hk : (k + (its.toArray.size : Int)).toNat = j := by
      rw [seqIndex_neg (by omega) h3] at h1
      rw [List.size_toArray, ← hl]
      exact Option.some.inj h1
    exact PySem.W.ki_setBack ho (by omega) (by rw [List.size_toArray, ← hl]; exact h3) (by omega) (by rw [hk]; exact ⟨_, I', q⟩)

/-! ### slices -/
theorem slice_bounds (lo hi : Option Int) (n : Nat) : (sliceBounds lo hi none n).1 = ((HT.sIx n 0 lo : Nat) : Int) ∧ (sliceBounds lo hi none n).2.1 = ((HT.sIx n n hi : Nat) : Int) ∧ (sliceBounds lo hi none n).2.2 = 1 := by
  refine ⟨?_, ?_, rfl⟩
  · cases lo with
    | none => simp [sliceBounds, HT.sIx]
    | some i =>
      simp only [sliceBounds, HT.sIx, Option.getD_none, show (1 : Int) > 0 by decide, if_true]
      by_cases h : i < 0
      · simp only [h, if_true] <;> omega
      · simp only [h, if_false] <;> omega
  · cases hi with
    | none => simp [sliceBounds, HT.sIx]
    | some i =>
      simp only [sliceBounds, HT.sIx, Option.getD_none, show (1 : Int) > 0 by decide, if_true]
      by_cases h : i < 0
      · simp only [h, if_true] <;> omega
      · simp only [h, if_false] <;> omega
theorem slicePick_cut (its : List Value) (lo hi : Option Int) : slicePick its.toArray lo hi none = ((its.drop (HT.sIx its.length 0 lo)).take (HT.sIx its.length its.length hi - HT.sIx its.length 0 lo)).toArray := by
  obtain ⟨h1, h2, h3⟩ := slice_bounds lo hi its.toArray.size
  unfold slicePick
  rw [h1, h2, h3]
  simp only [sliceRange_one, pick_run, List.size_toArray] <;> rfl
/-- xs[lo:hi] of a list: a new list -/
def rSlL (K : PySem.W.Frag) : V → Option Int → Option Int → Hp → VK → Prop := fun x lo hi H Q => ∃ a xs, x = .ref a ∧ SqL K H a xs ∧ ∀ p, H p = none → Q (.ref p) (upd H p (.lst (cutV xs lo hi)))
theorem sl_list : SlR X (rSlL X.K) := by
  intro pins s σ H x v vl vu lo hi sl Q I rx hs pl pu h
  obtain ⟨a, xs, rfl, hx, q⟩ := h
  cases rx
  obtain ⟨its, r, ht, hz⟩ := I.list hx
  have hlen := r.length
  refine ⟨"list", _, slot_list_getitem.lookup, ht.isList.typeIs, ?_⟩
  refine wpAny_getItem_list_slice ht.isList hs pl pu .none (by simp) ?_ (by rw [List.size_toArray] <;> omega)
  rw [slicePick_cut, ← hlen]
  refine ⟨.ref s.heap.objs.size, _, I.laid (t' := s.toks) (o := .lst (cutV xs lo hi)) (fun b ob q => Heap.get?_push_of_some _ q) (Nat.le_refl _) ?_, rfl, q _ (I.hok.fresh (Nat.le_refl _))⟩
  exact ⟨Nat.le_trans (cutV_length xs lo hi) hz, _, 0, (r.drop (HT.sIx xs.length 0 lo)).take (HT.sIx xs.length xs.length hi - HT.sIx xs.length 0 lo), Heap.get?_push_size _ rfl⟩

/-! ### in, not in: flat items -/
def flatV : V → Bool
  | .non => true
  | .bl _ => true
  | .int _ => true
  | .str _ => true
  | _ => false
/-- == of flat values -/
def eqV : V → V → Bool
  | .non, .non => true
  | .bl a, .bl b => a == b
  | .bl a, .int b => (if a then 1 else 0) == b
  | .int a, .bl b => a == (if b then 1 else 0)
  | .int a, .int b => a == b
  | .str a, .str b => a == b
  | _, _ => false
theorem eqAt_V {A : Around} {s : Shared} {y x : V} {u v : Value} (ry : RelV y u) (rx : RelV x v) (fy : flatV y = true) (fx : flatV x = true) : SeqAt.EqAt A s u v (eqV y x) := by
  cases y with
  | non =>
    cases ry
    cases x with
    | non => cases rx; exact SeqAt.EqAt.same _
    | bl b => cases rx; exact SeqAt.EqAt.none_bool b
    | int b => obtain ⟨t, rfl⟩ := rx; exact SeqAt.EqAt.none_int b t
    | str b => obtain ⟨t, rfl⟩ := rx; exact SeqAt.EqAt.none_str b t
    | _ => exact absurd (show false = true from fx) Bool.false_ne_true
  | bl a =>
    cases ry
    cases x with
    | non => cases rx; exact SeqAt.EqAt.bool_none a
    | bl b => cases rx; exact SeqAt.EqAt.bool_bool a b
    | int b => obtain ⟨t, rfl⟩ := rx; exact SeqAt.EqAt.bool_int a b t
    | str b => obtain ⟨t, rfl⟩ := rx; exact SeqAt.EqAt.bool_str a b t
    | _ => exact absurd (show false = true from fx) Bool.false_ne_true
  | int a =>
    obtain ⟨t', rfl⟩ := ry
    cases x with
    | non => cases rx; exact SeqAt.EqAt.int_none a t'
    | bl b => cases rx; exact SeqAt.EqAt.int_bool a t' b
    | int b => obtain ⟨t, rfl⟩ := rx; exact SeqAt.EqAt.int_int a t' b t
    | str b => obtain ⟨t, rfl⟩ := rx; exact SeqAt.EqAt.int_str a t' b t
    | _ => exact absurd (show false = true from fx) Bool.false_ne_true
  | str a =>
    obtain ⟨t', rfl⟩ := ry
    cases x with
    | non => cases rx; exact SeqAt.EqAt.str_none a t'
    | bl b => cases rx; exact SeqAt.EqAt.str_bool a t' b
    | int b => obtain ⟨t, rfl⟩ := rx; exact SeqAt.EqAt.str_int a t' b t
    | str b => obtain ⟨t, rfl⟩ := rx; exact SeqAt.EqAt.str_str a t' b t
    | _ => exact absurd (show false = true from fx) Bool.false_ne_true
  | _ => exact absurd (show false = true from fy) Bool.false_ne_true
/-- the items' answers, read off the values (a value's own answer does not lean on its token) -/
def eqU (x : V) (u : Value) : Bool := match u with
  | .none => eqV .non x
  | .bool b => eqV (.bl b) x
  | .int i _ => eqV (.int i) x
  | .str z _ => eqV (.str z) x
  | _ => false
theorem eqU_of {x y : V} {u : Value} (r : RelV y u) (f : flatV y = true) : eqU x u = eqV y x := by
  cases y with
  | non => cases r; rfl
  | bl b => cases r; rfl
  | int i => obtain ⟨t, rfl⟩ := r; rfl
  | str z => obtain ⟨t, rfl⟩ := r; rfl
  | _ => exact absurd (show false = true from f) Bool.false_ne_true
theorem any_eqU {x : V} : ∀ {xs : List V} {us : List Value}, Vals xs us → xs.all flatV = true → us.any (eqU x) = xs.any fun y => eqV y x
  | _, _, .nil, _ => rfl
  | y :: xs, u :: us, .cons r t, f => by
    rw [List.all_cons, Bool.and_eq_true] at f
    rw [List.any_cons, List.any_cons, eqU_of r f.1, any_eqU t f.2]
theorem mem_eqAt {A : Around} {s : Shared} {x : V} {v : Value} (rx : RelV x v) (fx : flatV x = true) : ∀ {xs : List V} {us : List Value}, Vals xs us → xs.all flatV = true → ∀ u ∈ us, SeqAt.EqAt A s u v (eqU x u)
  | _, _, .nil, _ => fun u hu => by cases hu
  | y :: xs, u :: us, .cons r t, f => fun u' hu => by
    rw [List.all_cons, Bool.and_eq_true] at f
    rcases List.mem_cons.mp hu with rfl | hu
    · rw [eqU_of r f.1]; exact eqAt_V r rx f.1 fx
    · exact mem_eqAt rx fx t f.2 u' hu
def inV (x : V) (xs : List V) : Bool := xs.any fun y => eqV y x
/-- x in a list or tuple of flat items -/
def rIn (K : PySem.W.Frag) (neg : Bool) : R2 := fun x y H Q => ∃ p xs, y = .ref p ∧ (SqL K H p xs ∨ SqT K H p xs) ∧ flatV x = true ∧ xs.all flatV = true ∧ Q (.bl (if neg then !inV x xs else inV x xs)) H
theorem op_in_seq : OpR X (compareOp .In) (rIn X.K false) := by
  intro pins s σ H x y v u Q I rx ry h
  obtain ⟨p, xs, rfl, hq, fx, fs, q⟩ := h
  cases ry
  rcases hq with hq | hq
  · obtain ⟨its, r, pl, hz⟩ := I.list hq
    refine SeqAt.in_listAt (eqU x) pl.isList (fun w hw => mem_eqAt rx fx r fs w (by simpa using hw)) ⟨.bl _, H, I, rfl, ?_⟩
    rw [show its.toArray.any (eqU x) = its.any (eqU x) by simp, any_eqU r fs]
    exact q
  · obtain ⟨its, r, pl, hz⟩ := I.tuple hq
    refine SeqAt.in_tupleAt (eqU x) pl (fun w hw => mem_eqAt rx fx r fs w (by simpa using hw)) ⟨.bl _, H, I, rfl, ?_⟩
    rw [show its.toArray.any (eqU x) = its.any (eqU x) by simp, any_eqU r fs]
    exact q
theorem op_notIn_seq : OpR X (compareOp .NotIn) (rIn X.K true) := by
  intro pins s σ H x y v u Q I rx ry h
  obtain ⟨p, xs, rfl, hq, fx, fs, q⟩ := h
  cases ry
  rcases hq with hq | hq
  · obtain ⟨its, r, pl, hz⟩ := I.list hq
    refine SeqAt.notIn_listAt (eqU x) pl.isList (fun w hw => mem_eqAt rx fx r fs w (by simpa using hw)) ⟨.bl _, H, I, rfl, ?_⟩
    rw [show its.toArray.any (eqU x) = its.any (eqU x) by simp, any_eqU r fs]
    exact q
  · obtain ⟨its, r, pl, hz⟩ := I.tuple hq
    refine SeqAt.notIn_tupleAt (eqU x) pl (fun w hw => mem_eqAt rx fx r fs w (by simpa using hw)) ⟨.bl _, H, I, rfl, ?_⟩
    rw [show its.toArray.any (eqU x) = its.any (eqU x) by simp, any_eqU r fs]
    exact q
/-! ### len, list(x), tuple(x) of any list or tuple that is read -/
theorem call_len_seq : CallR X (.builtin "len") (fun xs H Q => ∃ p ys, xs = [.ref p] ∧ (SqL X.K H p ys ∨ SqT X.K H p ys) ∧ Q (.int ys.length) H) := by
  intro pins s σ H xs us Q I r h
  obtain ⟨p, ys, rfl, hq, q⟩ := h
  obtain ⟨u, rfl, rx⟩ := vals1 r
  cases rx
  have hn := line63
  rcases hq with hq | hq
  · obtain ⟨its, r', pl, hz⟩ := I.list hq
    have hlen := r'.length
    exact Calls.call_len_list pl.isList (by simp only [List.size_toArray] <;> omega) ⟨.int ys.length, H, I.tok _, ⟨s.toks + 1, by rw [List.size_toArray, hlen]⟩, q⟩
  · obtain ⟨its, r', pl, hz⟩ := I.tuple hq
    have hlen := r'.length
    exact len_tuple pl (by simp only [List.size_toArray] <;> omega) ⟨.int ys.length, H, I.tok _, ⟨s.toks + 1, by rw [List.size_toArray, hlen]⟩, q⟩
theorem call_list_of : CallR X (.type "list") (fun xs H Q => ∃ p ys, xs = [.ref p] ∧ (SqL X.K H p ys ∨ SqT X.K H p ys) ∧ ∀ l, H l = none → Q (.ref l) (upd H l (.lst ys))) := by
  intro pins s σ H xs us Q I r h
  obtain ⟨p, ys, rfl, hq, q⟩ := h
  obtain ⟨u, rfl, rx⟩ := vals1 r
  cases rx
  have fin : ∀ (its : List Value), Vals ys its → ys.length ≤ sizeLine → ∀ (h' : Heap) (c' : Nat), (∀ b o', s.heap.get? b = some o' → h'.get? b = some o') →
      h'.get? s.heap.objs.size = some { cls := .type "list", dict := none, data := .seq its.toArray c', slots := #[] } → EP X pins σ Q (.ref s.heap.objs.size) { s with heap := h' } := fun its r' hz h' c' kp e =>
    ⟨.ref s.heap.objs.size, _, I.laid (t' := s.toks) kp (Nat.le_refl _) (show ObjOk X.prog X.w _ h' _ (.lst ys) from ⟨hz, its, c', r', e⟩), rfl, q _ (I.hok.fresh (Nat.le_refl _))⟩
  rcases hq with hq | hq
  · obtain ⟨its, r', pl, hz⟩ := I.list hq
    have hlen := r'.length
    obtain ⟨o, ho, hc, n, hd⟩ := pl.isList
    exact call_list_seq p (.inl rfl) ho hc hd (fun h' c' kp e => fin its r' hz h' c' kp e) (by simp only [List.size_toArray] <;> omega)
  · obtain ⟨its, r', pl, hz⟩ := I.tuple hq
    have hlen := r'.length
    obtain ⟨o, ho, hc, n, hd⟩ := pl
    exact call_list_seq p (.inr rfl) ho hc hd (fun h' c' kp e => fin its r' hz h' c' kp e) (by simp only [List.size_toArray] <;> omega)
/-! ### the call of a builtin's method: o.m(..) -/
/-- the value is of that builtin type -/
def tyV (K : PySem.W.Frag) (T : String) (x : V) (H : Hp) : Prop := match x with
  | .str _ => T = "str"
  | .int _ => T = "int"
  | .ref p => (T = "list" ∧ ∃ xs, SqL K H p xs) ∨ (T = "tuple" ∧ ∃ o, K.lookup p = some o ∧ o.cls = .type "tuple" ∧ o.dict = none) ∨
      (T = "dict" ∧ ((∃ kvs, H p = some (.dK kvs)) ∨ ∃ kvs, H p = some (.dT kvs))) ∨ (T = "set" ∧ ∃ S n, H p = some (.set S n))
  | _ => False
theorem tyV_is {pins : List (Addr × Obj)} {σ : St} {H : Hp} {s : Shared} {T : String} {x : V} {v : Value} (I : Inv X pins σ H s) (r : RelV x v) (ty : tyV X.K T x H) :
    s.TypeIs v T ∧ ∀ a, v = .ref a → ∃ ob, s.heap.get? a = some ob ∧ ob.dict = none := by
  cases x with
  | str z =>
    obtain ⟨t, rfl⟩ := r
    cases (show T = "str" from ty)
    exact ⟨typeIs_str s z t, fun _ e => nomatch e⟩
  | int i =>
    obtain ⟨t, rfl⟩ := r
    cases (show T = "int" from ty)
    exact ⟨typeIs_int s i t, fun _ e => nomatch e⟩
  | ref p =>
    cases r
    rcases ty with ⟨rfl, xs, hq⟩ | ⟨rfl, o, hk, hc, hd⟩ | ⟨rfl, hk⟩ | ⟨rfl, S, n, hk⟩
    · obtain ⟨its, _, pl, _⟩ := I.list hq
      refine ⟨pl.isList.typeIs, fun a e => ?_⟩
      cases e
      obtain ⟨o, n, e, c, hd, _⟩ := pl
      exact ⟨o, e, hd⟩
    · refine ⟨⟨o, I.kIn p o hk, hc⟩, fun a e => ?_⟩
      cases e
      exact ⟨o, I.kIn _ o hk, hd⟩
    · have z : ∃ o, s.heap.get? p = some o ∧ o.ExactDict := by
        rcases hk with ⟨kvs, hk⟩ | ⟨kvs, hk⟩
        · obtain ⟨_, _, _, _, o, _, _, e, ex, _⟩ := I.hok p _ hk
          exact ⟨o, e, ex⟩
        · obtain ⟨_, _, _, _, o, _, _, e, ex, _⟩ := I.hok p _ hk
          exact ⟨o, e, ex⟩
      obtain ⟨o, e, ex⟩ := z
      refine ⟨⟨o, e, ex.1⟩, fun a e2 => ?_⟩
      cases e2
      exact ⟨o, e, ex.2.1⟩
    · obtain ⟨o, _, _, _, e, ex, _⟩ := I.hok p _ hk
      refine ⟨⟨o, e, ex.1⟩, fun a e2 => ?_⟩
      cases e2
      exact ⟨o, e, ex.2.1⟩
  | _ => exact False.elim ty
def tBM0 (K : PySem.W.Frag) (T : String) (r : V → List V → Hp → VK → Prop) (to : TE) : TE := fun σ H Q => to σ H fun x H1 => tyV K T x H1 ∧ r x [] H1 Q
def tBM (K : PySem.W.Frag) (T : String) (r : V → List V → Hp → VK → Prop) (to : TE) (t : TA) : TE := fun σ H Q => to σ H fun x H1 => tyV K T x H1 ∧ t σ H1 fun xs H2 => r x xs H2 Q
variable {o e : Expr} {es : List Expr} {to : TE} {t : TA} {name : Str} {apos cpos : Pos} {T id : String} {r : V → List V → Hp → VK → Prop}
theorem pe_bm (pa : PlainAttrs T) (slot : Slot T name id) (hty : typeOf (.builtin id) = pure (.type "method_descriptor")) (hm : MtR X id r) (ho : PE X o to) (ha : PA X (e :: es) t)
    (hbase : attributeBase o name X.env (eval o X.env) = eval o X.env := by rfl)
    (hfew : ((backTo cpos (starEach (e :: es) X.env)).all (fun x => !x.1) && (backToKw cpos (keywordEach [] X.env)).all (fun x => x.1.isSome)
      && decide ((e :: es).length + ([] : List Keyword).length + (if ([] : List Keyword).isEmpty then 0 else 1) < 30)) = true := by rfl)
    (hline : (apos.endLine == cpos.line) = true := by rfl) (hs : starEach (e :: es) X.env = (false, eval e X.env) :: starEach es X.env := by rfl) (hplain : (backTo cpos (starEach es X.env)).any (·.1) = false := by rfl) :
    PE X (.Call (.Attribute o name apos) (e :: es) [] cpos) (tBM X.K T r to t) := by
  intro pins s σ H Q I h
  refine wpAny_Call_method_late hbase hfew hline rfl (thn (ho pins s σ H _ I h) fun v s1 ⟨x, H1, I1, r1, ty, q1⟩ => ?_)
  obtain ⟨h1, h2⟩ := tyV_is I1 r1 ty
  refine ⟨T, id, pa, slot, hty, h1, h2, ?_⟩
  have hA := ha cpos pins s1 σ H1 _ I1 q1
  rw [hs] at hA ⊢
  refine Calls.callWith_builtin (by show (false || (backTo cpos (starEach es X.env)).any (·.1)) = false; rw [hplain] <;> rfl) (Calls.evalArgs_plain ?_)
  exact thn hA fun us s2 ⟨vs, H2, I2, r2, q2⟩ => hm pins s2 σ H2 x vs v us Q I2 r1 r2 q2
end
end L2

namespace L2
open PySem PySem.Spec PyProof.Rows

def MtM (X : Cx) (id : String) (r : V → List V → Hp → VK → Prop) : Prop :=
  ∀ (pins : List (Addr × Obj)) (s : Shared) (σ : St) (H : Hp) (x : V) (xs : List V) (v : Value) (us : List Value) (Q : VK), Inv X pins σ H s → RelV x v → Vals xs us → r x xs H Q →
    wpAny (model X.prog X.w) X.A (call (.builtin id) (v :: us)) (EP X pins σ Q) X.xe s

/-! ### lists of values -/
theorem Vals.one : ∀ {x : V} {us : List Value}, Vals [x] us → ∃ u, us = [u] ∧ RelV x u
  | _, _, .cons r .nil => ⟨_, rfl, r⟩
section
variable {X : Cx} {pins : List (Addr × Obj)} {σ : St} {H : Hp} {s : Shared} {l b : Addr} {xs ys zs : List V}

/-! ### the two steps: a tracked list is rewritten, a new list is laid -/
theorem Inv.lset {its its' : List Value} {n : Nat} {f : Array Value → Array Value} {t' : Nat} (I : Inv X pins σ H s) (hH : H l = some (.lst xs))
    (e : s.heap.get? l = some { cls := .type "list", data := .seq its.toArray n }) (hf : f its.toArray = its'.toArray) (hv : Vals ys its') (hz : ys.length ≤ sizeLine) :
    Inv X pins σ (upd H l (.lst ys)) { s with heap := s.heap.update l (Obj.mapSeq f), toks := t' } := by
  have q := PySem.IsL.update e f
  rw [hf] at q
  refine I.write (x := l) (e := l) (by rw [hH]; exact trivial) (.inl rfl) (fun b' u hb hu => (Heap.get?_update_other s.heap (Obj.mapSeq f) (Ne.symm hb)).trans hu) ⟨_, q⟩ ?_
  exact ⟨hz, its', _, hv, q⟩
theorem Inv.lstM (I : Inv X pins σ H s) (hH : H l = some (.lst xs)) : xs.length ≤ sizeLine ∧ ∃ (its : List Value) (n : Nat), Vals xs its ∧ xs.length = its.length ∧ s.heap.get? l = some { cls := .type "list", data := .seq its.toArray n } := by
  obtain ⟨z, its, n, r, e⟩ := I.hok l _ hH
  exact ⟨z, its, n, r, r.length, e⟩

theorem notLongL {n : Nat} (h : n ≤ sizeLine) : Builtin.List.listTooLong n = false := by
  unfold Builtin.List.listTooLong
  exact decide_eq_false (by omega)
end

section
variable {X : Cx}

/-! ### methods -/
def rAppend : V → List V → Hp → VK → Prop := fun x vs H Q => ∃ l xs y, x = .ref l ∧ vs = [y] ∧ H l = some (.lst xs) ∧ xs.length < sizeLine ∧ Q .non (upd H l (.lst (xs ++ [y])))
theorem mt_append : MtM X "list.append" rAppend := by
  intro pins s σ H x vs v us Q I rx rv h
  obtain ⟨l, xs, y, rfl, rfl, hH, hz, q⟩ := h
  cases rx
  obtain ⟨u, rfl, ru⟩ := rv.one
  obtain ⟨z, its, n, r, hl, e⟩ := I.lstM hH
  refine call_meets F.slot_list_append ⟨_, e, rfl⟩ F.entry_list_append (F.args_list_append_2 _ _) (PySem.list_append l its.toArray n u (by rw [List.size_toArray]; omega)) ⟨e, ?_⟩
  refine ⟨.non, _, I.lset (its' := its ++ [u]) hH e (by simp) (r.append (.cons ru .nil)) ?_, rfl, q⟩
  rw [List.length_append, List.length_singleton]
  omega

def rExtend : V → List V → Hp → VK → Prop := fun x vs H Q => ∃ l b xs zs, x = .ref l ∧ vs = [.ref b] ∧ H l = some (.lst xs) ∧ H b = some (.lst zs) ∧ xs.length + zs.length ≤ sizeLine ∧ Q .non (upd H l (.lst (xs ++ zs)))
theorem mt_extend : MtM X "list.extend" rExtend := by
  intro pins s σ H x vs v us Q I rx rv h
  obtain ⟨l, b, xs, zs, rfl, rfl, hH, hB, hz, q⟩ := h
  cases rx
  obtain ⟨u, rfl, ru⟩ := rv.one
  cases ru
  obtain ⟨z, its, n, r, hl, e⟩ := I.lstM hH
  obtain ⟨z2, its2, n2, r2, hl2, e2⟩ := I.lstM hB
  have hsz : its.toArray.size + its2.toArray.size ≤ sizeLine := by rw [List.size_toArray, List.size_toArray]; omega
  have hlong : ¬ (!its.toArray.isEmpty && Builtin.List.listTooLong (its.toArray.size + its2.toArray.size)) = true := by
    rw [notLongL hsz, Bool.and_false]
    exact Bool.false_ne_true
  refine call_meets F.slot_list_extend ⟨_, e, rfl⟩ F.entry_list_extend (F.args_list_extend_2 _ _)
    (AutoSeq1.list_extend_list_list_0 l its.toArray n b its2.toArray n2 hlong (by rw [List.size_toArray]; omega) (by omega)) ⟨e, e2, ?_⟩
  refine ⟨.non, _, I.lset (its' := its ++ its2) hH e (by simp) (r.append r2) ?_, rfl, q⟩
  rw [List.length_append]
  omega

def rPop : V → List V → Hp → VK → Prop := fun x vs H Q => ∃ l xs y, x = .ref l ∧ vs = [] ∧ H l = some (.lst xs) ∧ xs[xs.length - 1]? = some y ∧ Q y (upd H l (.lst xs.dropLast))
def rPopAt : V → List V → Hp → VK → Prop := fun x vs H Q => ∃ l xs i k y, x = .ref l ∧ vs = [.int i] ∧ H l = some (.lst xs) ∧ -(2 ^ 63) ≤ i ∧ i < 2 ^ 63 ∧ seqIndex? i xs.length = some k ∧ xs[k]? = some y ∧ Q y (upd H l (.lst (xs.eraseIdx k)))
def rReverse : V → List V → Hp → VK → Prop := fun x vs H Q => ∃ l xs, x = .ref l ∧ vs = [] ∧ H l = some (.lst xs) ∧ Q .non (upd H l (.lst xs.reverse))
def rClear : V → List V → Hp → VK → Prop := fun x vs H Q => ∃ l xs, x = .ref l ∧ vs = [] ∧ H l = some (.lst xs) ∧ Q .non (upd H l (.lst []))
/-! ### list + list, list += list, list * int -/
def rCat : R2 := fun x y H Q => ∃ l b xs zs, x = .ref l ∧ y = .ref b ∧ H l = some (.lst xs) ∧ H b = some (.lst zs) ∧ xs.length + zs.length ≤ sizeLine ∧ ∀ p, H p = none → Q (.ref p) (upd H p (.lst (xs ++ zs)))
/-- a list times an int (a negative one is nothing) -/
def rRep : R2 := fun x y H Q => ∃ l k xs, x = .ref l ∧ y = .int k ∧ H l = some (.lst xs) ∧ -(2 ^ 63) ≤ k ∧ k < 2 ^ 63 ∧ xs.length * k.toNat ≤ sizeLine ∧
  ∀ p, H p = none → Q (.ref p) (upd H p (.lst (List.replicate k.toNat xs).flatten))
/-! ### del xs[i] -/
end

/-! ### xs[a:b] = ys -/
section
variable {prog : Program} {w : World} {A : Around} {E : Value → Shared → Prop} {s : Shared}
end

section
variable {X : Cx}
end
end L2

namespace L2
open PySem PySem.Spec PyProof.Rows

theorem Vals.ints : ∀ {ns : List Int} {us : List Value}, Vals (ns.map V.int) us → IntsAre us ns
  | [], us, h => by
    rw [List.map_nil] at h
    cases h
    exact IntsAre.nil
  | n :: ns, us, h => by
    rw [List.map_cons] at h
    cases h with
    | cons r t =>
      obtain ⟨k, rfl⟩ := r
      exact IntsAre.cons n k (Vals.ints t)
theorem Vals.ref1 {a : Addr} {us : List Value} (r : Vals [V.ref a] us) : us = [Value.ref a] := by
  cases r with
  | cons r t =>
    cases t
    cases r
    rfl
/-! ### the library's walks over a list of ints, kept objects alone -/
section
variable {prog : Program} {w : World} {A : Around} {E : Value → Shared → Prop} {s : Shared} {l : Addr} {its : List Value} {ns : List Int} {Q : Value → Shared → Prop}
theorem sum_raw (hh : A.handled = none) (hl : s.heap.IsList l its.toArray) (hi : IntsAre its ns)
    (h : ∀ h' tk t', (∀ b o, s.heap.get? b = some o → h'.get? b = some o) → Q (.int ns.sum t') { s with heap := h', toks := tk }) : wpAny (model prog w) A (call (.builtin "sum") [.ref l]) Q E s := by
  obtain ⟨xs, e⟩ := hi.allInts.items
  have hn : numsOf (intItems xs).toList = ns := by rw [← e]; exact hi.numsOf
  rw [nums_intItems] at hn
  rw [e] at hl
  refine PySem.sum_intListG hh hl fun h' tk t' hk => ?_
  have := h h' tk t' hk
  rw [preSum_eq, List.take_of_length_le (by simp), hn]; exact this
theorem max_raw (hh : A.handled = none) (hl : s.heap.IsList l its.toArray) (hi : IntsAre its ns) (hne : 0 < ns.length)
    (h : ∀ h' tk M t', (∀ b o, s.heap.get? b = some o → h'.get? b = some o) → M ∈ ns → (∀ a, a ∈ ns → a ≤ M) → Q (.int M t') { s with heap := h', toks := tk }) : wpAny (model prog w) A (call (.builtin "max") [.ref l]) Q E s := by
  obtain ⟨xs, e⟩ := hi.allInts.items
  have hn : numsOf (intItems xs).toList = ns := by rw [← e]; exact hi.numsOf
  rw [nums_intItems] at hn
  subst hn
  rw [e] at hl
  have hsz : 0 < xs.size := by simpa using hne
  refine PySem.max_intList hh hl hsz fun v h' tk hv hk => ?_
  obtain ⟨t, rfl⟩ := intItems_at hv
  obtain ⟨h1, h2⟩ := argBest_gt (numAt xs) (xs.size - 1)
  refine h h' tk _ t hk ?_ fun a ha => ?_
  · rw [numAt_eq]; exact PySem.getD_mem (by rw [List.length_map, Array.length_toList]; omega)
  · obtain ⟨j, hj, rfl⟩ := mem_getD ha
    rw [List.length_map, Array.length_toList] at hj
    rw [← numAt_eq]; exact h2 j (by omega)
end

/-! ### the calls, by values (CallR of 03t; MtR of 06l) -/
section
variable {X : Cx}
/-- sum(xs) of a list of ints -/
def rSum (K : PySem.W.Frag) : List V → Hp → VK → Prop := fun vs H Q => ∃ (a : Addr) (ns : List Int), vs = [V.ref a] ∧ SqL K H a (ns.map V.int) ∧ Q (.int ns.sum) H
/-- max(xs), min(xs) of a list of ints -/
def rMax (K : PySem.W.Frag) : List V → Hp → VK → Prop := fun vs H Q => ∃ (a : Addr) (ns : List Int), vs = [V.ref a] ∧ SqL K H a (ns.map V.int) ∧ 0 < ns.length ∧ ∀ m, m ∈ ns → (∀ y, y ∈ ns → y ≤ m) → Q (.int m) H
def rMin (K : PySem.W.Frag) : List V → Hp → VK → Prop := fun vs H Q => ∃ (a : Addr) (ns : List Int), vs = [V.ref a] ∧ SqL K H a (ns.map V.int) ∧ 0 < ns.length ∧ ∀ m, m ∈ ns → (∀ y, y ∈ ns → m ≤ y) → Q (.int m) H
theorem cr_sum (hc : X.calm = true) : CallR X (.builtin "sum") (rSum X.K) := by
  intro pins s σ H vs us Q I r h
  obtain ⟨a, ns, rfl, hs, q⟩ := h
  obtain ⟨its, rv, hl, _⟩ := I.list hs
  rw [Vals.ref1 r]
  exact sum_raw (I.ok.hd hc) hl.isList rv.ints fun h' tk t' hk => ⟨.int _, H, I.kept hk, ⟨_, rfl⟩, q⟩
theorem cr_max (hc : X.calm = true) : CallR X (.builtin "max") (rMax X.K) := by
  intro pins s σ H vs us Q I r h
  obtain ⟨a, ns, rfl, hs, hne, q⟩ := h
  obtain ⟨its, rv, hl, _⟩ := I.list hs
  rw [Vals.ref1 r]
  exact max_raw (I.ok.hd hc) hl.isList rv.ints hne fun h' tk m t' hk h1 h2 => ⟨.int _, H, I.kept hk, ⟨_, rfl⟩, q m h1 h2⟩
/-! sorted, sort (fewer than 64 items: the library's own bound) -/
def rSorted (K : PySem.W.Frag) : List V → Hp → VK → Prop := fun vs H Q => ∃ (a : Addr) (ns : List Int), vs = [V.ref a] ∧ SqL K H a (ns.map V.int) ∧ ns.length < 64 ∧
  ∀ (ns' : List Int) (p : Addr), ns'.Perm ns → ns'.Pairwise (· ≤ ·) → H p = none → Q (.ref p) (upd H p (.lst (ns'.map V.int)))
def rSortedS (K : PySem.W.Frag) : List V → Hp → VK → Prop := fun vs H Q => ∃ (a : Addr) (xs : List Str), vs = [V.ref a] ∧ SqL K H a (xs.map V.str) ∧ xs.length < 64 ∧
  ∀ (ys : List Str) (p : Addr), ys.Perm xs → sortedS ys = true → H p = none → Q (.ref p) (upd H p (.lst (ys.map V.str)))
/-- xs.sort(), ints -/
def rSort : V → List V → Hp → VK → Prop := fun x xs H Q => ∃ (a : Addr) (ns : List Int), x = V.ref a ∧ xs = [] ∧ H a = some (.lst (ns.map V.int)) ∧ ns.length < 64 ∧
  ∀ ns' : List Int, ns'.Perm ns → ns'.Pairwise (· ≤ ·) → Q .non (upd H a (.lst (ns'.map V.int)))
end

/-! ### list.index, flat items -/
section
variable {X : Cx}
def rIndex (K : PySem.W.Frag) : V → List V → Hp → VK → Prop := fun x xs H Q => ∃ (a : Addr) (ys : List V) (y : V) (j : Nat) (z : V), x = V.ref a ∧ xs = [y] ∧ SqL K H a ys ∧ flatV y = true ∧ ys.all flatV = true ∧ ys[j]? = some z ∧ eqV z y = true ∧
  (∀ (m : Nat) (z' : V), m < j → ys[m]? = some z' → eqV z' y = false) ∧ Q (.int (j : Nat)) H
end

/-! ### type(x) of an own instance; is, is not of a module's class -/
section
variable {X : Cx}
end

/-! ### any(xs), all(xs) of a list of bools -/
section
variable {X : Cx}
def rAny (K : PySem.W.Frag) : List V → Hp → VK → Prop := fun vs H Q => ∃ (a : Addr) (bs : List Bool), vs = [V.ref a] ∧ SqL K H a (bs.map V.bl) ∧ Q (.bl (bs.any id)) H
def rAll (K : PySem.W.Frag) : List V → Hp → VK → Prop := fun vs H Q => ∃ (a : Addr) (bs : List Bool), vs = [V.ref a] ∧ SqL K H a (bs.map V.bl) ∧ Q (.bl (bs.all id)) H
end

/-! ### == and != of data at any depth: none, bools, ints, texts, lists, tuples -/
mutual
inductive Dp (K : PySem.W.Frag) (H : Hp) : V → PyData → Prop
  | non : Dp K H .non .none
  | bl (b : Bool) : Dp K H (.bl b) (.bool b)
  | int (i : Int) : Dp K H (.int i) (.int i)
  | str (x : Str) : Dp K H (.str x) (.str x)
  | lst {a : Addr} {xs : List V} {ds : List PyData} : SqL K H a xs → DpAll K H xs ds → Dp K H (.ref a) (.list ds)
  | tup {a : Addr} {xs : List V} {ds : List PyData} : SqT K H a xs → DpAll K H xs ds → Dp K H (.ref a) (.tuple ds)
inductive DpAll (K : PySem.W.Frag) (H : Hp) : List V → List PyData → Prop
  | nil : DpAll K H [] []
  | cons {v : V} {vs : List V} {d : PyData} {ds : List PyData} : Dp K H v d → DpAll K H vs ds → DpAll K H (v :: vs) (d :: ds)
end
section
variable {X : Cx} {pins : List (Addr × Obj)} {σ : St} {H : Hp} {s : Shared}
mutual
theorem Dp.reads (I : Inv X pins σ H s) : ∀ (d : PyData) (v : V) (u : Value), Dp X.K H v d → RelV v u → ∃ as, Reads s.heap u d as
  | .none, _, _, h, r => by
    cases h
    cases r
    exact ⟨_, Reads.none⟩
  | .bool b, _, _, h, r => by
    cases h
    cases r
    exact ⟨_, Reads.bool b⟩
  | .int i, _, _, h, r => by
    cases h
    obtain ⟨t, rfl⟩ := r
    exact ⟨_, Reads.int i t⟩
  | .str x, _, _, h, r => by
    cases h
    obtain ⟨t, rfl⟩ := r
    exact ⟨_, Reads.str x t⟩
  | .list ds, _, _, h, r => by
    cases h with
    | lst hs ha =>
      cases r
      obtain ⟨its, rv, ⟨o, n, ho, hc, _, hd⟩, _⟩ := I.list hs
      obtain ⟨as, hr⟩ := Dp.readsAll I ds _ its ha rv
      exact ⟨_, Reads.list ho hc hd hr⟩
  | .tuple ds, _, _, h, r => by
    cases h with
    | tup hs ha =>
      cases r
      obtain ⟨its, rv, ⟨o, ho, hc, n, hd⟩, _⟩ := I.tuple hs
      obtain ⟨as, hr⟩ := Dp.readsAll I ds _ its ha rv
      exact ⟨_, Reads.tuple ho hc hd hr⟩
  | .dict _, _, _, h, _ => by cases h
theorem Dp.readsAll (I : Inv X pins σ H s) : ∀ (ds : List PyData) (vs : List V) (us : List Value), DpAll X.K H vs ds → Vals vs us → ∃ as, ReadsAll s.heap us ds as
  | [], _, _, h, r => by
    cases h
    cases r
    exact ⟨_, ReadsAll.nil⟩
  | d :: ds, _, _, h, r => by
    cases h with
    | cons h1 h2 =>
      cases r with
      | cons r1 r2 =>
        obtain ⟨as, q1⟩ := Dp.reads I d _ _ h1 r1
        obtain ⟨bs, q2⟩ := Dp.readsAll I ds _ _ h2 r2
        exact ⟨_, ReadsAll.cons q1 q2⟩
end
end
section
variable {X : Cx}
def rEqD (K : PySem.W.Frag) : R2 := fun x y H Q => ∃ d e, Dp K H x d ∧ Dp K H y e ∧ SeqAt.shaped d = true ∧ SeqAt.shaped e = true ∧ Q (.bl (PyData.eqv d e)) H
def rNeD (K : PySem.W.Frag) : R2 := fun x y H Q => ∃ d e, Dp K H x d ∧ Dp K H y e ∧ SeqAt.shaped d = true ∧ SeqAt.shaped e = true ∧ Q (.bl (!PyData.eqv d e)) H
theorem op_eqD (hu : X.A.units + 64 < cLine) : OpR X (compareOp .Eq) (rEqD X.K) := by
  intro pins s σ H x y v u Q I rx ry h
  obtain ⟨d, e, hd, he, sd, se, q⟩ := h
  obtain ⟨as, r1⟩ := Dp.reads I d x v hd rx
  obtain ⟨bs, r2⟩ := Dp.reads I e y u he ry
  exact SeqAt.compareEq_shaped r1 r2 sd se hu ⟨.bl _, H, I, rfl, q⟩
end
end L2

namespace L2
open PySem PySem.Spec PyProof.Rows
abbrev CellAt (h : Heap) (c : Addr) (v : Option Value) : Prop := h.IsCell c v
def relS (scope sc : Scope) : Scope :=
  { scope with names := scope.names.map fun (n, k) => if (k == .free && sc.kind == .function && sc.names.lookup n == some .cell) then (n, .cell) else (n, k) }

def cloFrom (cells : List (Str × Addr)) : List (Str × NameKind) → List (Str × Addr) → List (Str × Addr)
  | [], acc => acc
  | (n, k) :: r, acc => if k == .free then cloFrom cells r ((n, (cells.lookup n).getD 0) :: acc) else cloFrom cells r acc

theorem closure_loop (env : Env) (f : Str × NameKind → List (Str × Addr) → Sem (ForInStep (List (Str × Addr))))
    (hf : ∀ n k c, f (n, k) c = if k == .free then (do let a ← cellOf env n; pure (.yield ((n, a) :: c))) else pure (.yield c)) :
    ∀ (names : List (Str × NameKind)) (acc : List (Str × Addr)), (∀ y ∈ names, y.2 = .free → ∃ c, env.cells.lookup y.1 = some c) → forIn names acc f = pure (cloFrom env.cells names acc)
  | [], acc, _ => by rw [List.forIn_nil]; rfl
  | (n, k) :: r, acc, h => by
    rw [List.forIn_cons, hf]
    have ih := fun acc => closure_loop env f hf r acc fun y hy => h y (List.mem_cons_of_mem _ hy)
    unfold cloFrom
    by_cases hk : (k == NameKind.free) = true
    · rw [if_pos hk, if_pos hk]
      obtain ⟨c, hc⟩ := h (n, k) List.mem_cons_self (by simpa using hk)
      have e : cellOf env n = pure c := by unfold cellOf; rw [hc]
      rw [e]
      have e2 : (env.cells.lookup n).getD 0 = c := by rw [hc]; rfl
      rw [e2]
      exact ih _
    · rw [if_neg hk, if_neg hk]
      exact ih _
theorem closure_ok {scope : Scope} {env : Env} (h : ∀ y ∈ scope.names, y.2 = .free → ∃ c, env.cells.lookup y.1 = some c) : closureFor scope env = pure (cloFrom env.cells scope.names []) := by
  simp only [closureFor]
  rw [closure_loop env _ (fun n k c => rfl) scope.names [] h]
  rfl

theorem mem_lookup {α : Type} : ∀ {l : List (Str × α)} {n : Str} {c : α}, (n, c) ∈ l → ∃ c', l.lookup n = some c'
  | (k, v) :: r, n, c, h => by
    rw [List.lookup_cons]
    cases hb : n == k with
    | true => exact ⟨_, rfl⟩
    | false =>
      rcases List.mem_cons.mp h with e | h
      · cases e; simp at hb
      · exact mem_lookup h

theorem cloFrom_mem {cells : List (Str × Addr)} : ∀ {names : List (Str × NameKind)} {acc : List (Str × Addr)} {n : Str} {c : Addr}, (n, c) ∈ cloFrom cells names acc → (n, c) ∈ acc ∨ ((n, .free) ∈ names ∧ c = (cells.lookup n).getD 0)
  | [], _, _, _, h => .inl h
  | (m, k) :: r, acc, n, c, h => by
    unfold cloFrom at h
    split at h
    · rename_i hk
      have hk : k = .free := by simpa using hk
      rcases cloFrom_mem h with h | ⟨h1, h2⟩
      · rcases List.mem_cons.mp h with e | h
        · cases e; exact .inr ⟨hk ▸ List.mem_cons_self, rfl⟩
        · exact .inl h
      · exact .inr ⟨List.mem_cons_of_mem _ h1, h2⟩
    · rcases cloFrom_mem h with h | ⟨h1, h2⟩
      · exact .inl h
      · exact .inr ⟨List.mem_cons_of_mem _ h1, h2⟩
theorem cloFrom_acc {cells : List (Str × Addr)} : ∀ {names : List (Str × NameKind)} {acc : List (Str × Addr)} {p : Str × Addr}, p ∈ acc → p ∈ cloFrom cells names acc
  | [], _, _, h => h
  | (m, k) :: r, acc, p, h => by
    unfold cloFrom
    split
    · exact cloFrom_acc (List.mem_cons_of_mem _ h)
    · exact cloFrom_acc h
theorem cloFrom_has {cells : List (Str × Addr)} : ∀ {names : List (Str × NameKind)} {acc : List (Str × Addr)} {n : Str}, (n, .free) ∈ names → (n, (cells.lookup n).getD 0) ∈ cloFrom cells names acc
  | (m, k) :: r, acc, n, h => by
    unfold cloFrom
    rcases List.mem_cons.mp h with e | h
    · cases e
      exact cloFrom_acc List.mem_cons_self
    · split
      · exact cloFrom_has h
      · exact cloFrom_has h

theorem cells_mem : ∀ {names : List (Str × NameKind)} {h : Heap} {acc : List (Str × Addr)} {x : Str} {c : Addr}, (x, c) ∈ cellsFrom h.objs.size names acc →
    (x, c) ∈ acc ∨ ((x, .cell) ∈ names ∧ h.objs.size ≤ c ∧ CellAt (pushCells h names) c none)
  | [], _, _, _, _, h => .inl h
  | (n, k) :: r, h, acc, x, c, hm => by
    unfold cellsFrom at hm
    unfold pushCells
    split at hm
    · rename_i hk
      rw [if_pos hk]
      have hk : k = .cell := by simpa using hk
      rw [← Heap.size_push h { cls := .type "cell", data := .cell none }] at hm
      rcases cells_mem hm with hm | ⟨h1, h2, h3⟩
      · rcases List.mem_cons.mp hm with e | hm
        · cases e
          exact .inr ⟨hk ▸ List.mem_cons_self, Nat.le_refl _, _, pushCells_keeps r _ _ _ (Heap.get?_push_size _ rfl), rfl⟩
        · exact .inl hm
      · rw [Heap.size_push] at h2
        exact .inr ⟨List.mem_cons_of_mem _ h1, Nat.le_of_succ_le h2, h3⟩
    · rename_i hk
      rw [if_neg hk]
      rcases cells_mem hm with hm | ⟨h1, h2, h3⟩
      · exact .inl hm
      · exact .inr ⟨List.mem_cons_of_mem _ h1, h2, h3⟩
theorem cells_acc : ∀ {names : List (Str × NameKind)} {n : Nat} {acc : List (Str × Addr)} {p : Str × Addr}, p ∈ acc → p ∈ cellsFrom n names acc
  | [], _, _, _, h => h
  | (m, k) :: r, n, acc, p, h => by
    unfold cellsFrom
    split
    · exact cells_acc (List.mem_cons_of_mem _ h)
    · exact cells_acc h
theorem cells_has : ∀ {names : List (Str × NameKind)} {n : Nat} {acc : List (Str × Addr)} {x : Str}, (x, .cell) ∈ names → ∃ c, (x, c) ∈ cellsFrom n names acc
  | (m, k) :: r, n, acc, x, h => by
    unfold cellsFrom
    rcases List.mem_cons.mp h with e | h
    · cases e
      exact ⟨n, cells_acc List.mem_cons_self⟩
    · split
      · exact cells_has h
      · exact cells_has h
theorem cells_inj : ∀ {names : List (Str × NameKind)} {h : Heap} {acc : List (Str × Addr)} {x y : Str} {c : Addr}, (∀ p ∈ acc, p.2 < h.objs.size) → (∀ x y c, (x, c) ∈ acc → (y, c) ∈ acc → x = y) →
    (x, c) ∈ cellsFrom h.objs.size names acc → (y, c) ∈ cellsFrom h.objs.size names acc → x = y
  | [], _, _, _, _, _, _, hi, h1, h2 => hi _ _ _ h1 h2
  | (n, k) :: r, h, acc, x, y, c, hl, hi, h1, h2 => by
    unfold cellsFrom at h1 h2
    split at h1
    · rename_i hk
      rw [if_pos hk] at h2
      rw [← Heap.size_push h { cls := .type "cell", data := .cell none }] at h1 h2
      refine cells_inj (h := h.push _) (fun p hp => ?_) (fun x y c a b => ?_) h1 h2
      · rw [Heap.size_push]
        rcases List.mem_cons.mp hp with rfl | hp
        · exact Nat.lt_succ_self _
        · exact Nat.lt_succ_of_lt (hl p hp)
      · rcases List.mem_cons.mp a with e | a <;> rcases List.mem_cons.mp b with e' | b
        · cases e; cases e'; rfl
        · cases e; exact absurd (hl _ b) (Nat.lt_irrefl _)
        · cases e'; exact absurd (hl _ a) (Nat.lt_irrefl _)
        · exact hi _ _ _ a b
    · rename_i hk
      rw [if_neg hk] at h2
      exact cells_inj hl hi h1 h2

theorem newEnv_comp {M : Model} {A : Around} {E : Value → Shared → Prop} {s : Shared} {scope : Scope} {globals : Addr} {closure : List (Str × Addr)} {qual : Str} {func : Option Addr} {code : Value} {around : Env} {builtins : Addr} {Q : Env → Shared → Prop}
    (h : Q (newEnv scope s.heap.objs.size globals (cellsFrom (s.heap.objs.size + 1) scope.names closure) qual func code (some around) builtins)
      { s with heap := pushCells (s.heap.push { cls := .type "dict", data := .dict #[] }) scope.names }) :
    wpAny M A (newFunctionEnv scope globals closure [] qual func code (some around) builtins) Q E s := by
  simp only [newFunctionEnv, Option.isSome_some, if_true]
  refine wpAny_bind (wpAny_alloc ?_)
  refine wpAny_bind (wpAny_layCells _ (fun n k c => rfl) scope.names closure _ _ ?_)
  rw [show ({ s with heap := s.heap.push { cls := .type "dict", data := .dict #[] } } : Shared).heap.objs.size = s.heap.objs.size + 1 from Heap.size_push ..]
  rw [List.forIn_nil]
  exact wpAny_bind (wpAny_pure (wpAny_pure h))

/-- every name of the written scope, in the scope that runs -/
theorem lookup_relS {sc : Scope} : ∀ {names : List (Str × NameKind)} {x : Str} {k : NameKind},
    (names.map fun (n, k) => if (k == NameKind.free && sc.kind == .function && sc.names.lookup n == some .cell) then (n, NameKind.cell) else (n, k)).lookup x = some k →
    ∃ k', names.lookup x = some k' ∧ (k = k' ∨ (k' = .free ∧ k = .cell))
  | [], _, _, h => by simp at h
  | (n, k₀) :: r, x, k, h => by
    have ih := @lookup_relS sc r x k
    have h' : List.lookup x ((if (k₀ == NameKind.free && sc.kind == .function && sc.names.lookup n == some .cell) = true then (n, NameKind.cell) else (n, k₀)) :: (r.map _)) = some k := h
    cases hx : x == n with
    | true =>
      simp only [List.lookup_cons, hx]
      by_cases hc : (k₀ == NameKind.free && sc.kind == .function && sc.names.lookup n == some .cell) = true
      · rw [if_pos hc] at h'
        simp only [List.lookup_cons, hx] at h'
        cases h'
        simp only [Bool.and_eq_true, beq_iff_eq] at hc
        exact ⟨k₀, rfl, .inr ⟨hc.1.1, rfl⟩⟩
      · rw [if_neg hc] at h'
        simp only [List.lookup_cons, hx] at h'
        cases h'
        exact ⟨_, rfl, .inl rfl⟩
    | false =>
      simp only [List.lookup_cons, hx]
      by_cases hc : (k₀ == NameKind.free && sc.kind == .function && sc.names.lookup n == some .cell) = true
      · rw [if_pos hc] at h'
        simp only [List.lookup_cons, hx] at h'
        exact ih h'
      · rw [if_neg hc] at h'
        simp only [List.lookup_cons, hx] at h'
        exact ih h'
/-- the names of a comprehension's block: its own (with their places in N), or captured -/
structure BlkOk (N : List Str) (sc scope : Scope) (own : List (Str × Nat)) : Prop where
  kind : scope.kind = .function
  uniq : ∀ y ∈ scope.names, scope.names.lookup y.1 = some y.2
  ix : ∀ p ∈ own, N[p.2]? = some p.1
  free : ∀ y ∈ scope.names, y.2 = .free → sc.names.lookup y.1 = some .cell ∨ sc.names.lookup y.1 = some .free
  own : ∀ y ∈ scope.names, y.2 = .local ∨ y.2 = .cell → y.1 ∈ own.map (·.1) ∨ y.1 ∉ N
/-- the slots of the block's own names forgotten -/
def wipe (σ : St) : List Nat → St
  | [] => σ
  | v :: vs => (wipe σ vs).set v none
theorem wipe_length (σ : St) : ∀ vs : List Nat, (wipe σ vs).length = σ.length
  | [] => rfl
  | v :: vs => by unfold wipe; rw [List.length_set, wipe_length σ vs]
theorem wipe_some {σ : St} {i : Nat} {x : V} : ∀ {vs : List Nat}, (wipe σ vs)[i]? = some (some x) → σ[i]? = some (some x) ∧ i ∉ vs
  | [], h => ⟨h, by simp⟩
  | v :: vs, h => by
    unfold wipe at h
    by_cases hi : v = i
    · subst hi
      by_cases hv : v < (wipe σ vs).length
      · rw [List.getElem?_set_self hv] at h; cases h
      · rw [List.getElem?_eq_none (by simpa using hv)] at h; cases h
    · rw [List.getElem?_set_ne hi] at h
      obtain ⟨h1, h2⟩ := wipe_some h
      exact ⟨h1, by simp only [List.mem_cons, not_or]; exact ⟨fun e => hi e.symm, h2⟩⟩

/-- the context of a block that starts at s, its iterator's objects at fp -/
abbrev Cx.blk (X : Cx) (s : Shared) (H : Hp) (scope : Scope) (cenv : Env) (fp : List Addr) : Cx := { X with s_0 := s, H_0 := H, env := cenv, outer := X.stack, ex := fp, fn := fun x => scope.names.lookup x == some .cell, pn := [], xe := fun _ _ => False }
section
variable {X : Cx} {pins : List (Addr × Obj)} {σ : St} {H : Hp} {s : Shared}
theorem block_start {scope : Scope} {own : List (Str × Nat)} {fp : List Addr} (I : Inv X pins σ H s) (ok : BlkOk X.N X.env.scope scope own) (hN : X.N.Nodup) (hfp : ∀ b ∈ fp, FpOk X pins H b ∧ b < s.heap.objs.size) :
    Inv (X.blk s H scope (compEnvC scope (cellsFrom (s.heap.objs.size + 1) scope.names (cloFrom X.env.cells scope.names [])) s.heap.objs.size X.env) fp) [] (wipe σ (own.map (·.2))) H { s with heap := pushCells (s.heap.push { cls := .type "dict", data := .dict #[] }) scope.names } := by
  have hfree : ∀ y ∈ scope.names, y.2 = .free → ∃ c, X.env.cells.lookup y.1 = some c := fun y hy e => by
    rcases ok.free y hy e with k | k
    · exact I.ok.has _ (.inl k)
    · exact I.ok.has _ (.inr k)
  generalize hcenv : compEnvC scope (cellsFrom (s.heap.objs.size + 1) scope.names (cloFrom X.env.cells scope.names [])) s.heap.objs.size X.env = cenv
  have kp : ∀ b o, s.heap.get? b = some o → (pushCells (s.heap.push { cls := .type "dict", data := .dict #[] }) scope.names).get? b = some o := fun b o e => pushCells_keeps _ _ _ _ (Heap.get?_push_of_some _ e)
  have hL : cenv.locals = s.heap.objs.size := by rw [← hcenv]; rfl
  have hcl : cenv.cells = cellsFrom (s.heap.objs.size + 1) scope.names (cloFrom X.env.cells scope.names []) := by rw [← hcenv]; rfl
  have hsc : cenv.scope = relS scope X.env.scope := by rw [← hcenv]; rfl
  rw [← Heap.size_push s.heap { cls := .type "dict", data := .dict #[] }] at hcl
  have cm : ∀ {y c}, (y, c) ∈ cloFrom X.env.cells scope.names [] → X.env.cells.lookup y = some c ∧ c < s.heap.objs.size := fun {y c} hm => by
    rcases cloFrom_mem hm with hm | ⟨h1, rfl⟩
    · cases hm
    · obtain ⟨c, hc⟩ := hfree _ h1 rfl
      rw [hc]
      obtain ⟨w, z⟩ := I.cell _ _ hc
      exact ⟨rfl, z.lt⟩
  have mem : ∀ {y c}, cenv.cells.lookup y = some c → (X.env.cells.lookup y = some c ∧ c < s.heap.objs.size) ∨ (s.heap.objs.size + 1 ≤ c ∧ CellAt (pushCells (s.heap.push { cls := .type "dict", data := .dict #[] }) scope.names) c none) := fun {y c} e => by
    rw [hcl] at e
    rcases cells_mem (PySem.mem_of_lookup e) with hm | ⟨_, h2, h3⟩
    · exact .inl (cm hm)
    · rw [Heap.size_push] at h2; exact .inr ⟨h2, h3⟩
  have look : ∀ {y}, scope.names.lookup y = some .free → ∃ c, cenv.cells.lookup y = some c ∧ X.env.cells.lookup y = some c := fun {y} hl => by
    have hy : (y, NameKind.free) ∈ scope.names := PySem.mem_of_lookup hl
    obtain ⟨c', e'⟩ := mem_lookup (cells_acc (names := scope.names) (n := (s.heap.push { cls := .type "dict", data := .dict #[] }).objs.size) (cloFrom_has (cells := X.env.cells) (acc := []) hy))
    rw [← hcl] at e'
    refine ⟨c', e', ?_⟩
    rw [hcl] at e'
    rcases cells_mem (PySem.mem_of_lookup e') with hm | ⟨h1, _, _⟩
    · exact (cm hm).1
    · have := ok.uniq _ h1
      rw [hl] at this; cases this
  have okB : (X.blk s H scope cenv fp).Ok := by
    refine ⟨I.ok.mod, by show cenv.scope.kind = _; rw [hsc]; exact ok.kind, by show cenv.globals = _; rw [← hcenv]; exact I.ok.glob, by show cenv.builtins = _; rw [← hcenv]; exact I.ok.blt, by show s.heap.objs.size ≤ cenv.locals; rw [hL]; exact Nat.le_refl _,
      fun y z c e1 e2 => ?_, fun y hy => ?_, fun y c z e => ?_, I.ok.hd, I.ok.frames, .inl rfl, fun b hb => ⟨?_, fun y c e z => ?_⟩, I.bs, Nat.le_trans I.ok.bsz I.sz, fun b o e hb => ?_, fun b hb z => ?_, I.stack, I.stkFree⟩
    · have e1 : cenv.cells.lookup y = some c := e1
      have e2 : cenv.cells.lookup z = some c := e2
      rw [hcl] at e1 e2
      refine cells_inj (fun p hp => ?_) (fun y z c a b => I.ok.inj y z c (cm a).1 (cm b).1) (PySem.mem_of_lookup e1) (PySem.mem_of_lookup e2)
      rw [Heap.size_push]
      exact Nat.lt_succ_of_lt (cm (y := p.1) (c := p.2) hp).2
    · show ∃ c, cenv.cells.lookup y = some c
      have key : ∀ k, cenv.kindOf y = some k → (k = .cell ∨ k = .free) → ∃ c, cenv.cells.lookup y = some c := fun k hk hk' => by
        unfold Env.kindOf at hk
        rw [hsc] at hk
        obtain ⟨k', e, r⟩ := lookup_relS hk
        have : k' = .cell ∨ k' = .free := by
          rcases r with rfl | ⟨rfl, _⟩
          · exact hk'
          · exact .inr rfl
        rcases this with rfl | rfl
        · obtain ⟨c, hm⟩ := cells_has (n := (s.heap.push { cls := .type "dict", data := .dict #[] }).objs.size) (acc := cloFrom X.env.cells scope.names []) (PySem.mem_of_lookup e)
          obtain ⟨c', e'⟩ := mem_lookup hm
          exact ⟨c', by rw [hcl]; exact e'⟩
        · obtain ⟨c, h1, _⟩ := look e
          exact ⟨c, h1⟩
      rcases hy with hy | hy
      · exact key _ hy (.inl rfl)
      · exact key _ hy (.inr rfl)
    · have z : (scope.names.lookup y == some NameKind.cell) = true := z
      have z : scope.names.lookup y = some .cell := by simpa using z
      have e : cenv.cells.lookup y = some c := e
      rw [hcl] at e
      rcases cells_mem (PySem.mem_of_lookup e) with hm | ⟨_, h2, _⟩
      · rcases cloFrom_mem hm with hm | ⟨h1, _⟩
        · cases hm
        · have q := ok.uniq _ h1
          rw [z] at q; cases q
      · rw [Heap.size_push] at h2
        exact Nat.le_of_succ_le h2
    · show b ≠ cenv.locals
      rw [hL]; exact Nat.ne_of_lt (hfp b hb).2
    · have e : cenv.cells.lookup y = some c := e
      rcases mem e with ⟨h1, _⟩ | ⟨h1, _⟩
      · exact (hfp b hb).1.2.2.2.2.1 y c h1 z
      · have h2 : s.heap.objs.size + 1 ≤ b := by rw [← z]; exact h1
        exact absurd (Nat.lt_of_lt_of_le (hfp b hb).2 (Nat.le_of_succ_le h2)) (Nat.lt_irrefl _)
    · rcases (hfp b hb).1.2.2.2.1 with z | z
      · exact I.ok.noex b o e z
      · exact absurd (Nat.lt_of_lt_of_le (Heap.lt_size e) (Nat.le_trans I.ok.bsz z)) (Nat.lt_irrefl _)
    · rcases List.mem_cons.mp (I.stkSub b z) with z | z
      · exact (hfp b hb).1.2.1 z
      · exact (hfp b hb).1.2.2.1 z
  refine ⟨okB, rfl, I.bare, Un.kept kp, ⟨fun _ => none, ?_, fun i y av e1 e2 e3 => ?_⟩, fun y c e => ?_, ?_, fun y c e => ?_, fun p hp => ?_, I.hok.kept kp, by rw [wipe_length]; exact I.len⟩
  · show Heap.Ns _ cenv.locals _
    rw [hL]
    exact Heap.Ns.keeps (Heap.Ns.new ..) fun b o e => pushCells_keeps _ _ _ _ e
  · obtain ⟨e2, hne⟩ := wipe_some e2
    have hfr : scope.names.lookup y = some .free ∧ (cenv.kindOf y = some .cell ∨ cenv.kindOf y = some .free) := by
      have key : ∀ k, cenv.scope.names.lookup y = some k → k = .local ∨ k = .cell ∨ k = .free → scope.names.lookup y = some .free ∧ (cenv.kindOf y = some .cell ∨ cenv.kindOf y = some .free) := fun k hk hk' => by
        have hk0 := hk
        rw [hsc] at hk
        obtain ⟨k', e, r⟩ := lookup_relS hk
        have no : ¬ (k' = .local ∨ k' = .cell) := fun hh => by
          rcases ok.own _ (PySem.mem_of_lookup e) hh with e' | e'
          · obtain ⟨p, hp, hpy⟩ := List.mem_map.mp e'
            have e3 := ok.ix p hp
            have : p.1 = y := hpy
            rw [this] at e3
            exact hne (List.mem_map.mpr ⟨p, hp, nodup_ix hN e3 e1⟩)
          · exact e' (List.mem_of_getElem? e1)
        rcases r with rfl | ⟨rfl, rfl⟩
        · rcases hk' with rfl | rfl | rfl
          · exact absurd (.inl rfl) no
          · exact absurd (.inr rfl) no
          · exact ⟨e, .inr hk0⟩
        · exact ⟨e, .inl hk0⟩
      have e3 : Vis cenv.scope y := e3
      rcases e3 with e3 | e3 | e3
      · exact key _ e3 (.inl rfl)
      · exact key _ e3 (.inr (.inl rfl))
      · exact key _ e3 (.inr (.inr rfl))
    obtain ⟨m, hn, hl⟩ := I.loc
    have hvis : Vis X.env.scope y := (ok.free _ (PySem.mem_of_lookup hfr.1) rfl).elim (fun k => .inr (.inl k)) (fun k => .inr (.inr k))
    obtain ⟨w, r, q⟩ := hl i y av e1 e2 hvis
    refine ⟨w, r, .inr ⟨hfr.2, ?_⟩⟩
    obtain ⟨c, h1, h2⟩ := look hfr.1
    rcases q with ⟨k, _⟩ | ⟨_, c', e', z⟩
    · have k : X.env.scope.names.lookup y = some .local := k
      rcases ok.free _ (PySem.mem_of_lookup hfr.1) rfl with k' | k' <;> rw [show X.env.scope.names.lookup y = _ from k'] at k <;> cases k
    · rw [h2] at e'; cases e'
      exact ⟨c, h1, z.keeps kp⟩
  · have e : cenv.cells.lookup y = some c := e
    rcases mem e with ⟨h1, _⟩ | ⟨_, z⟩
    · obtain ⟨w, z⟩ := I.cell y c h1
      exact ⟨w, z.keeps kp⟩
    · exact ⟨_, z⟩
  · show H cenv.locals = none
    rw [hL]; exact I.hok.fresh (Nat.le_refl _)
  · have e : cenv.cells.lookup y = some c := e
    rcases mem e with ⟨h1, _⟩ | ⟨h1, _⟩
    · exact I.freeC y c h1
    · exact I.hok.fresh (Nat.le_of_succ_le h1)
  · exact absurd (show p ∈ ([] : List (Addr × Obj)) ++ [] from hp) (by simp)

/-- an item appended to a tracked list -/
theorem app_ok {E : Value → Shared → Prop} {D : Addr} {xs : List V} {y : V} {v : Value} {Q : Value → Shared → Prop} (I : Inv X pins σ H s) (hD : H D = some (.lst xs)) (hz : xs.length < sizeLine) (r : RelV y v)
    (h : ∀ s', Inv X pins σ (upd H D (.lst (xs ++ [y]))) s' → Q .none s') : wpAny (model X.prog X.w) X.A (call (.builtin "list.append") [.ref D, v]) Q E s := by
  obtain ⟨hz', its, n, ri, e⟩ := I.hok D _ hD
  have hl := ri.length
  refine append_at (hsz := by rw [List.size_toArray]; omega) e fun h' sb ho' => ?_
  refine h { s with heap := h' } (I.write (t' := s.toks) (by rw [hD]; trivial) (.inl rfl) (fun b u hb q => (sb.2 b hb).trans q) ⟨_, ho'⟩ ⟨by rw [List.length_append]; exact hz, its ++ [v], n + 1, ri.append (.cons r .nil), ?_⟩)
  rw [ho']
  simp

/-- a clause's tests -/
def PTs (X : Cx) (ifs : List Expr) (t : TT) : Prop :=
  ∀ (pins : List (Addr × Obj)) (s : Shared) (σ : St) (H : Hp) (Q : Bool → Hp → Prop), Inv X pins σ H s → t σ H Q →
    wpAny (model X.prog X.w) X.A (forIn ifs true fun c r => if r = true then do let ok ← isTrue c X.env (eval c X.env); pure (ForInStep.yield ok) else pure (ForInStep.yield r)) (TP X pins σ Q) X.xe s
def tYes : TT := fun _ H Q => Q true H
theorem pts_one {c : Expr} {t : TT} (h : PT X c t) : PTs X [c] t := fun pins s σ H Q I hw => wpAny_tests_one (h pins s σ H Q I hw)
end

theorem thnF {α : Type} {t : Sem α} {Q Q' : α → Shared → Prop} {M : Model} {A : Around} {E : Value → Shared → Prop} {s : Shared} (h : wpAny M A t Q (fun _ _ => False) s) (hQ : ∀ a s, Q a s → Q' a s) : wpAny M A t Q' E s := wpAny_mono h hQ fun _ _ z => False.elim z

/-- the loop of a list comprehension's block, the target of any form (codeAny_compLoop_tests asks a target that no tuple goes to; statement and proof follow it, PyProof/CompMap.lean:41-61, with the step letOwnedTupleGo kept) -/
theorem compLoop_any {prog : Program} {w : World} {A : Around} {R : Result → Shared → Prop} {s : Shared} {elt target iter : Expr} {ifs : List Expr} {scope : Scope} {pos : Pos} {it acc : Value} {env : Env} (I : Nat → Shared → Prop)
    (turn : ∀ n s, I n s → wpAny (model prog w) A (pyNext it) (fun r s₁ => match r with
      | none => R (.ok .next) s₁
      | some v => wpAny (model prog w) A (letOwnedTupleGo target it v) (fun _ s₁' => wpAny (model prog w) A (assign target env v) (fun _ s₂ =>
          wpAny (model prog w) A (forIn ifs true fun c r => if r = true then do let ok ← isTrue c env (eval c env); pure (ForInStep.yield ok) else pure (ForInStep.yield r)) (fun ok s₃ =>
            if ok = true then wpAny (model prog w) A (eval elt env) (fun x s₄ =>
              wpAny (model prog w) A (call (.builtin "list.append") [acc, x]) (fun _ s₅ => ∃ m, m < n ∧ I m s₅) (notedBy (model prog w) A env fun e s' => R (.error e) s') s₄) (notedBy (model prog w) A env fun e s' => R (.error e) s') s₃
            else ∃ m, m < n ∧ I m s₃) (notedBy (model prog w) A env fun e s' => R (.error e) s') s₂) (notedBy (model prog w) A env fun e s' => R (.error e) s') s₁') (notedBy (model prog w) A env fun e s' => R (.error e) s') s₁) (notedBy (model prog w) A env fun e s' => R (.error e) s') s)
    (n : Nat) (h : I n s) :
    codeAny (model prog w) A (.compLoop (.ListComp elt [⟨target, iter, ifs, 0⟩] scope pos) 0 it acc env) R s := by
  refine codeAny_loop rfl I (fun n s hI => ?_) n h
  show wpAny _ A ((compTurn (.ListComp elt [⟨target, iter, ifs, 0⟩] scope pos) 0 it acc env).onRaise (fun x => do noteFrame x env; theTreesLotGoes x)) _ _ s
  refine wpAny_noted ?_
  rw [compTurn_list]
  refine wpAny_bind (wpAny_standAt (wpAny_bind (wpAny_mono (turn n s hI) (fun r s₁ h₁ => ?_) fun _ _ h' => h')))
  cases r with
  | none => exact wpAny_pure h₁
  | some v =>
    refine wpAny_bind (wpAny_mono h₁ (fun _ s₁' h₁' => ?_) fun _ _ h' => h')
    refine wpAny_bind (wpAny_mono h₁' (fun _ s₂ h₂ => wpAny_bind (wpAny_mono h₂ (fun ok s₃ h₃ => ?_) fun _ _ h' => h')) fun _ _ h' => h')
    cases ok with
    | false => exact wpAny_pure ⟨rfl, h₃⟩
    | true =>
      exact wpAny_bind (wpAny_bind (wpAny_mono h₃ (fun x s₄ h₄ => wpAny_bind (wpAny_mono h₄ (fun _ s₅ h₅ => wpAny_pure (wpAny_pure ⟨rfl, h₅⟩)) fun _ _ h' => h')) fun _ _ h' => h'))

section
variable {X : Cx}
/-- [elt for target in iter if ..]: D the new list; W by the turn and a measure, Nx what a turn is to reach -/
def tLc (wi : TI) (g : TG) (tt : TT) (te : TE) (vs : List Nat) : TE := fun σ H Q => wi σ H fun J H1 => ∀ D, H1 D = none → ∃ W : Nat → Nat → Hp → Prop, (∃ m, W 0 m (upd H1 D (.lst []))) ∧ ∀ i m H, W i m H →
  (J.stop i H ∧ Q (.ref D) H) ∨ (J.go i H ∧ ∃ Nx : Hp → Prop, (∀ H', Nx H' → ∃ m', m' < m ∧ W (i + 1) m' H') ∧ ∀ x H', J.yld i H x H' → g x (wipe σ vs) H' fun σ2 H2 => wipe σ2 vs = wipe σ vs ∧ tt σ2 H2 fun b H3 =>
    if b = true then te σ2 H3 fun y H4 => ∃ acc, H4 D = some (.lst acc) ∧ acc.length < sizeLine ∧ Nx (upd H4 D (.lst (acc ++ [y]))) else Nx H3)
theorem lc_core {pins : List (Addr × Obj)} {s : Shared} {σ : St} {H : Hp} {Q : VK} {elt tg iter : Expr} {ifs : List Expr} {scope : Scope} {own : List (Str × Nat)} {pos pos' : Pos} {wi : TI} {g : TG} {tt : TT} {te : TE} {use : Option (Value → Sem Unit)} {Qf : Value → Shared → Prop}
    (hc : X.calm = true) (hN : X.N.Nodup) (I : Inv X pins σ H s) (hi : PI X tg iter wi) (ok : BlkOk X.N X.env.scope scope own)
    (hg : ∀ (s : Shared) (H : Hp) (C : Addr) (cl : List (Str × Addr)) (fp : List Addr), PG (X.blk s H scope (compEnvC scope cl C X.env) fp) tg g) (ht : ∀ (s : Shared) (H : Hp) (C : Addr) (cl : List (Str × Addr)) (fp : List Addr), PTs (X.blk s H scope (compEnvC scope cl C X.env) fp) ifs tt)
    (he : ∀ (s : Shared) (H : Hp) (C : Addr) (cl : List (Str × Addr)) (fp : List Addr), PE (X.blk s H scope (compEnvC scope cl C X.env) fp) elt te) (hs : ∀ x, foldedSetIterable iter X.env x = pure x)
    (h : tLc wi g tt te (own.map (·.2)) σ H Q)
    (hRR : ∀ D C s' m H', Inv X pins σ H' s' → Q (.ref D) H' → s'.heap.Ns C m → FpOk X pins H' C → compPost (model X.prog X.w) X.A X.xe use Qf (.ref D) C (.ok .next) s') :
    wpAny (model X.prog X.w) X.A (comprehension (.ListComp elt [⟨tg, iter, ifs, 0⟩] scope pos) scope X.env pos' (newList []) false (eval iter X.env) use) Qf X.xe s := by
  have hfree : ∀ y ∈ scope.names, y.2 = .free → ∃ c, X.env.cells.lookup y.1 = some c := fun y hy e => by
    rcases ok.free y hy e with k | k
    · exact I.ok.has _ (.inl k)
    · exact I.ok.has _ (.inr k)
  refine wpAny_comprehension_free (use := use) rfl hs (closure_ok hfree) ok.kind (fun y hy e => by rw [ok.uniq y hy, e])
    (thn (hi pins s σ H _ I h) fun xv s1 hx => thn hx fun itv s2 h2 => ?_)
  obtain ⟨it, fp, tn, J, H2, e, I2, T, st2, f2, q⟩ := h2
  subst e
  refine wpAny_newObj_type (newEnv_comp ?_) (by show 0 ≤ sizeLine; decide)
  generalize hD : s2.heap.objs.size = D
  have hDn : H2 D = none := I2.hok.fresh (Nat.le_of_eq hD)
  obtain ⟨W, ⟨m0, w0⟩, turn⟩ := q D hDn
  -- the new list
  generalize hs3 : ({ s2 with heap := s2.heap.push { cls := .type "list", data := .seq ([] : List Value).toArray } } : Shared) = s3
  have I3 : Inv X pins σ (upd H2 D (.lst [])) s3 := by
    rw [← hs3]
    refine I2.laid (t' := s2.toks) (fun b o e => Heap.get?_push_of_some _ e) (Nat.le_of_eq hD) ⟨Nat.zero_le _, [], 0, .nil, ?_⟩
    rw [← hD]
    exact Heap.get?_push_size _ rfl
  have h3 : s3.heap = s2.heap.push { cls := .type "list", data := .seq ([] : List Value).toArray } := by rw [← hs3]
  have sz : ∀ b ∈ fp, b < s2.heap.objs.size := fun b hb => by
    obtain ⟨o, e, _⟩ := T.obj _ _ st2 b hb
    exact Heap.lt_size e
  have f3 : ∀ b ∈ fp, FpOk X pins (upd H2 D (.lst [])) b ∧ b < s3.heap.objs.size := fun b hb => by
    have hlt := sz b hb
    refine ⟨⟨?_, (f2 b hb).2⟩, by rw [h3, Heap.size_push]; exact Nat.lt_succ_of_lt hlt⟩
    rw [upd_ne (by rw [← hD]; exact Nat.ne_of_lt hlt)]
    exact (f2 b hb).1
  have st3 : tn 0 s3.heap := T.keep _ _ _ st2 fun b _ o e => by rw [h3]; exact Heap.get?_push_of_some _ e
  have I4 := block_start I3 ok hN f3
  have pg := hg s3 (upd H2 D (.lst [])) s3.heap.objs.size (cellsFrom (s3.heap.objs.size + 1) scope.names (cloFrom X.env.cells scope.names [])) fp
  have pt := ht s3 (upd H2 D (.lst [])) s3.heap.objs.size (cellsFrom (s3.heap.objs.size + 1) scope.names (cloFrom X.env.cells scope.names [])) fp
  have pe := he s3 (upd H2 D (.lst [])) s3.heap.objs.size (cellsFrom (s3.heap.objs.size + 1) scope.names (cloFrom X.env.cells scope.names [])) fp
  show codeAny _ _ (.compStart (.ListComp elt [⟨tg, iter, ifs, 0⟩] scope pos) 0 (.ref it) (.ref D) (compEnvC scope (cellsFrom (s3.heap.objs.size + 1) scope.names (cloFrom X.env.cells scope.names [])) s3.heap.objs.size X.env)) (compPost (model X.prog X.w) X.A X.xe use Qf (.ref D) s3.heap.objs.size) { s3 with heap := pushCells (s3.heap.push { cls := .type "dict", data := .dict #[] }) scope.names }
  have nfp : ∀ b ∈ fp, (upd H2 D (.lst [])) b = none := fun b hb => (f3 b hb).1.1
  generalize hce : compEnvC scope (cellsFrom (s3.heap.objs.size + 1) scope.names (cloFrom X.env.cells scope.names [])) s3.heap.objs.size X.env = ce at I4 pg pt pe ⊢
  have cL : ce.locals = s3.heap.objs.size := by subst hce; rfl
  generalize hH3 : upd H2 D (.lst []) = H3 at I3 I4 pg pt pe w0 nfp f3
  generalize hs4 : ({ s3 with heap := pushCells (s3.heap.push { cls := .type "dict", data := .dict #[] }) scope.names } : Shared) = s4 at I4 ⊢
  have st4 : tn 0 s4.heap := T.keep _ _ _ st3 fun b _ o e => by rw [← hs4]; exact pushCells_keeps _ _ _ _ (Heap.get?_push_of_some _ e)
  have stat : ∀ {σ' : St} {H' : Hp} {s' : Shared}, Inv (X.blk s3 H3 scope ce fp) [] σ' H' s' → (∀ b ∈ fp, H' b = none) → ∀ b ∈ fp, FpOk (X.blk s3 H3 scope ce fp) [] H' b := fun {σ' H' s'} I' hn b hb =>
    ⟨hn b hb, (I'.ok.exf b hb).1, I'.ok.exfs b hb, .inl hb, fun x c e => (I'.ok.exf b hb).2 x c e, fun p hp => absurd (show p ∈ ([] : List (Addr × Obj)) ++ [] from hp) (by simp)⟩
  have loop : codeAny (model X.prog X.w) X.A (.compLoop (.ListComp elt [⟨tg, iter, ifs, 0⟩] scope pos) 0 (.ref it) (.ref D) ce) (compPost (model X.prog X.w) X.A X.xe use Qf (.ref D) s3.heap.objs.size) s4 := by
    refine compLoop_any (fun n s' => ∃ i H', Inv (X.blk s3 H3 scope ce fp) [] (wipe σ (own.map (·.2))) H' s' ∧ tn i s'.heap ∧ (∀ b ∈ fp, H' b = none) ∧ W i n H') ?_ m0 ⟨0, H3, I4, st4, nfp, w0⟩
    rintro n s5 ⟨i, H5, I5, st5, n5, w5⟩
    rcases turn i n H5 w5 with ⟨stop, qq⟩ | ⟨go, Nx, hNx, step⟩
    · have td := T.done (X.blk s3 H3 scope ce fp) rfl rfl rfl hc i [] s5 _ H5 (fun _ _ => False) I5 (stat I5 n5) st5 stop
      refine thnF td fun r s6 ⟨hr, I6⟩ => ?_
      subst hr
      -- back in the def's context
      have I7 : Inv X pins σ H5 s6 := I3.call' (ch := fp) I6.os I6.base I6.hok I6.bare fun b hb => ⟨(f3 b hb).1.2.2.2.1, (f3 b hb).1.2.1, (f3 b hb).1.2.2.2.2.1, (f3 b hb).1.2.2.2.2.2⟩
      have nC : H5 s3.heap.objs.size = none := by
        have z : H5 ce.locals = none := I6.free
        rw [cL] at z
        exact z
      obtain ⟨m, hn, _⟩ := I6.loc
      have hn : s6.heap.Ns ce.locals m := hn
      rw [cL] at hn
      exact hRR D s3.heap.objs.size s6 m H5 I7 qq hn (I3.fpOk (Nat.le_refl _) nC)
    · have ti := T.item (X.blk s3 H3 scope ce fp) rfl rfl rfl hc i [] s5 _ H5 (fun _ _ => False) I5 (stat I5 n5) st5 go
      refine thnF ti fun r s6 ⟨u, hr, h6⟩ => ?_
      subst hr
      refine thnF h6 fun _ s7 ⟨x, H7, I7, r7, y7, st7, n7⟩ => ?_
      have I7' := I7.pinned (stat I7 n7) (T.obj _ _ st7)
      refine thnF (pg _ s7 _ H7 x u _ I7' r7 (step x H7 y7)) fun _ s8 ⟨σ8, H8, I8, hw8, q8⟩ => ?_
      refine thnF (pt _ s8 σ8 H8 _ I8 q8) fun b s9 ⟨H9, I9, q9⟩ => ?_
      -- the turn's end
      have fin : ∀ {s' : Shared} {H' : Hp}, Inv (X.blk s3 H3 scope ce fp) ([] ++ pinsAt fp s7.heap) σ8 H' s' → Nx H' → ∃ m, m < n ∧ ∃ i H', Inv (X.blk s3 H3 scope ce fp) [] (wipe σ (own.map (·.2))) H' s' ∧ tn i s'.heap ∧ (∀ b ∈ fp, H' b = none) ∧ W i m H' := fun {s' H'} I' nx => by
        obtain ⟨m', hm, w'⟩ := hNx H' nx
        have pin' : ∀ b ∈ fp, ∀ o, s7.heap.get? b = some o → s'.heap.get? b = some o ∧ H' b = none := fun b hb o e =>
          let z := I'.pin (b, o) (List.mem_append_right _ (List.mem_append_right _ (mem_pinsAt hb e)))
          ⟨z.1, z.2.1⟩
        have hl : (wipe σ (own.map (·.2))).length = σ8.length := by rw [← hw8, wipe_length]
        refine ⟨m', hm, i + 1, H', (I'.unpinned (pins := [])).weak hl (fun j v e => ?_), T.keep _ _ _ st7 fun b hb o e => (pin' b hb o e).1, fun b hb => ?_, w'⟩
        · rw [← hw8] at e
          exact (wipe_some e).1
        · obtain ⟨o, e, _⟩ := T.obj _ _ st7 b hb
          exact (pin' b hb o e).2
      cases b with
      | false =>
        simp only [Bool.false_eq_true, if_false] at q9 ⊢
        exact fin I9 q9
      | true =>
        simp only [if_true] at q9 ⊢
        refine thnF (pe _ s9 σ8 H9 _ I9 q9) fun z s10 ⟨yv, H10, I10, r10, acc, hD10, hz10, nx⟩ => ?_
        exact app_ok (X := X.blk s3 H3 scope ce fp) I10 hD10 hz10 r10 fun s11 I11 => fin I11 nx
  exact codeAny_compStart_list loop (T.self X.A 0 _ _ _ st4 loop)
/-- as a value -/
theorem pe_lc {elt tg iter : Expr} {ifs : List Expr} {scope : Scope} {own : List (Str × Nat)} {pos : Pos} {wi : TI} {g : TG} {tt : TT} {te : TE} (hc : X.calm = true) (hN : X.N.Nodup) (hi : PI X tg iter wi) (ok : BlkOk X.N X.env.scope scope own)
    (hg : ∀ (s : Shared) (H : Hp) (C : Addr) (cl : List (Str × Addr)) (fp : List Addr), PG (X.blk s H scope (compEnvC scope cl C X.env) fp) tg g) (ht : ∀ (s : Shared) (H : Hp) (C : Addr) (cl : List (Str × Addr)) (fp : List Addr), PTs (X.blk s H scope (compEnvC scope cl C X.env) fp) ifs tt)
    (he : ∀ (s : Shared) (H : Hp) (C : Addr) (cl : List (Str × Addr)) (fp : List Addr), PE (X.blk s H scope (compEnvC scope cl C X.env) fp) elt te) (hs : ∀ x, foldedSetIterable iter X.env x = pure x := by intro _; rfl) :
    PE X (.ListComp elt [⟨tg, iter, ifs, 0⟩] scope pos) (tLc wi g tt te (own.map (·.2))) := by
  intro pins s σ H Q I h
  rw [eval_ListComp]
  refine lc_core hc hN I hi ok hg ht he hs h fun D C s' m H' I' q hn f => ⟨m, hn, fun h'' sb => ?_⟩
  obtain ⟨f0, f1, f2, f3, f4, f5⟩ := f
  exact ⟨.ref D, H', I'.turned (t' := s'.toks) (fun b o hb e => (sb.2 b hb).trans e) f0 f1 f3 f4 f5, rfl, q⟩
/-- name = [..] on one line, the name a local -/
theorem ps_setLc {i : Nat} {y : Str} {py : Pos} {elt tg iter : Expr} {ifs : List Expr} {scope : Scope} {own : List (Str × Nat)} {pos spos : Pos} {wi : TI} {g : TG} {tt : TT} {te : TE} (hc : X.calm = true) (hN : X.N.Nodup) (hy : X.N[i]? = some y) (hyl : X.env.scope.names.lookup y = some .local)
    (hsw : swapsWith (.ListComp elt [⟨tg, iter, ifs, 0⟩] scope pos) (some (.Name y py)) spos.line X.env = pure true) (hi : PI X tg iter wi) (ok : BlkOk X.N X.env.scope scope own)
    (hg : ∀ (s : Shared) (H : Hp) (C : Addr) (cl : List (Str × Addr)) (fp : List Addr), PG (X.blk s H scope (compEnvC scope cl C X.env) fp) tg g) (ht : ∀ (s : Shared) (H : Hp) (C : Addr) (cl : List (Str × Addr)) (fp : List Addr), PTs (X.blk s H scope (compEnvC scope cl C X.env) fp) ifs tt)
    (he : ∀ (s : Shared) (H : Hp) (C : Addr) (cl : List (Str × Addr)) (fp : List Addr), PE (X.blk s H scope (compEnvC scope cl C X.env) fp) elt te) (hs : ∀ x, foldedSetIterable iter X.env x = pure x := by intro _; rfl) :
    PS X (.Assign [.Name y py] (.ListComp elt [⟨tg, iter, ifs, 0⟩] scope pos) spos) (tAsg (tLc wi g tt te (own.map (·.2))) (gName i)) := by
  intro pins s σ H D I h
  rw [exec_Assign_Name_used _ _ _ _ hsw]
  refine wpAny_bind (wpAny_standAt (wpAny_bind ?_))
  show wpAny _ X.A (do let _ ← comprehension (.ListComp elt [⟨tg, iter, ifs, 0⟩] scope pos) scope X.env (firstIterPos [⟨tg, iter, ifs, 0⟩] pos) (newList []) false (eval iter X.env) (some (assign (.Name y py) X.env))) _ _ s
  have h : tLc wi g tt te (own.map (·.2)) σ H (fun x H1 => gName i x σ H1 D.nx) := h
  refine wpAny_bind (thn (lc_core (Qf := fun _ s' => SP X pins D .next s') hc hN I hi ok hg ht he hs h fun L C s' m H' I' q hn f => ?_) fun _ s' hq => wpAny_pure (wpAny_pure hq))
  show wpAny _ _ (assign (.Name y py) X.env (.ref L)) _ _ _
  refine wpAny_assign_Name (store_ok2 (v := V.ref L) I' hN hy (.inl hyl) rfl (fun s2 I2 ⟨a, sb, ha⟩ => ?_) (.inr hyl))
  obtain ⟨f0, f1, f2, f3, f4, f5⟩ := f
  have haC : C ≠ a := by
    rcases ha with z | z
    · rw [z]; exact f1
    · exact fun e => f4 y a z e.symm
  refine ⟨m, hn.sameBut sb haC, fun h3 sb3 => ?_⟩
  exact ⟨_, H', I2.turned (t' := s2.toks) (fun b o hb e => (sb3.2 b hb).trans e) f0 f1 f3 f4 f5, q⟩
theorem sw_true {elt : Expr} {gs : List Comprehension} {scope : Scope} {pos py : Pos} {y : Str} {l : Nat} {env : Env} (hk : env.scope.kind = .function) (hy : env.scope.names.lookup y = some .local) (hl : (py.line == pos.line) = true)
    (ha : (scope.names.any fun (n, k) => n == y && (k == .local || k == .cell)) = false) : swapsWith (.ListComp elt gs scope pos) (some (.Name y py)) l env = pure true := by
  have ky : env.kindOf y = some .local := hy
  have hb : env.blockKind = .function := by unfold Env.blockKind; rw [hk]; rfl
  unfold swapsWith
  simp only [hb, ky, ha, Expr.pos, hl]
  rfl
end

/-! ### the forms one uses -/
/-- over a tuple -/
theorem lc_tup {K : PySem.W.Frag} {a : Addr} {xs : List V} {g : TG} {tt : TT} {te : TE} {vs : List Nat} {σ : St} {H1 : Hp} {D : Addr} {Qd : Hp → Prop} (Pv : Nat → Hp → Prop) (h0 : Pv 0 (upd H1 D (.lst []))) (hl : ∀ i H, i ≤ xs.length → Pv i H → SqT K H a xs)
    (hs : ∀ i x H, xs[i]? = some x → Pv i H → g x (wipe σ vs) H fun σ2 H2 => wipe σ2 vs = wipe σ vs ∧ tt σ2 H2 fun b H3 =>
      if b = true then te σ2 H3 fun y H4 => ∃ acc, H4 D = some (.lst acc) ∧ acc.length < sizeLine ∧ Pv (i + 1) (upd H4 D (.lst (acc ++ [y]))) else Pv (i + 1) H3) (hd : ∀ H, Pv xs.length H → Qd H) :
    ∃ W : Nat → Nat → Hp → Prop, (∃ m, W 0 m (upd H1 D (.lst []))) ∧ ∀ i m H, W i m H →
      ((Itt K a).stop i H ∧ Qd H) ∨ ((Itt K a).go i H ∧ ∃ Nx : Hp → Prop, (∀ H', Nx H' → ∃ m', m' < m ∧ W (i + 1) m' H') ∧ ∀ x H', (Itt K a).yld i H x H' → g x (wipe σ vs) H' fun σ2 H2 => wipe σ2 vs = wipe σ vs ∧ tt σ2 H2 fun b H3 =>
        if b = true then te σ2 H3 fun y H4 => ∃ acc, H4 D = some (.lst acc) ∧ acc.length < sizeLine ∧ Nx (upd H4 D (.lst (acc ++ [y]))) else Nx H3) := by
  refine ⟨fun i m H => m = xs.length - i ∧ i ≤ xs.length ∧ Pv i H, ⟨xs.length, by simp, Nat.zero_le _, h0⟩, ?_⟩
  rintro i m H ⟨rfl, hi, p⟩
  have q := hl i H hi p
  by_cases hlt : i < xs.length
  · refine .inr ⟨⟨xs, xs[i], q, by simp [hlt]⟩, Pv (i + 1), fun H' p' => ⟨xs.length - (i + 1), by omega, rfl, hlt, p'⟩, fun x H' y => ?_⟩
    obtain ⟨e, y⟩ := y
    subst e
    exact hs i x _ (y xs q) p
  · have e : i = xs.length := by omega
    subst e
    exact .inl ⟨⟨xs, q, Nat.le_refl _⟩, hd H p⟩
def blkC (N : List Str) (sc scope : Scope) (own : List (Str × Nat)) : Bool :=
  (match scope.kind with | .function => true | _ => false) && (scope.names.all fun y => decide (scope.names.lookup y.1 = some y.2)) && (own.all fun p => decide (N[p.2]? = some p.1)) &&
    (scope.names.all fun y => match y.2 with
      | .free => (match sc.names.lookup y.1 with | some .cell => true | some .free => true | _ => false)
      | .local => decide (y.1 ∈ own.map (·.1)) || decide (y.1 ∉ N)
      | .cell => decide (y.1 ∈ own.map (·.1)) || decide (y.1 ∉ N)
      | _ => true)
theorem blkOk_by {N : List Str} {sc scope : Scope} {own : List (Str × Nat)} (h : blkC N sc scope own = true) : BlkOk N sc scope own := by
  unfold blkC at h
  simp only [Bool.and_eq_true, List.all_eq_true, decide_eq_true_eq] at h
  obtain ⟨⟨⟨h1, h2⟩, h3⟩, h4⟩ := h
  refine ⟨?_, h2, h3, fun y hy e => ?_, fun y hy e => ?_⟩
  · split at h1
    · assumption
    · cases h1
  · have q := h4 y hy
    simp only [e] at q
    split at q <;> first | exact .inl (by assumption) | exact .inr (by assumption) | cases q
  · have q := h4 y hy
    rcases e with e | e <;> (simp only [e, Bool.or_eq_true, decide_eq_true_eq] at q; exact q)
end L2

namespace L2
open PySem PySem.Spec PyProof.Rows

section
variable {prog : Program} {w : World} {A : Around} {R : Result → Shared → Prop} {s : Shared} {elt t0 i0 t1 i1 : Expr} {ifs0 ifs1 : List Expr} {scope : Scope} {pos : Pos} {it acc : Value} {env : Env}
end

section
variable {X : Cx}
/-- [elt for tg in iter if .. for tg1 in iter1 if ..]: behind the first clause's store and tests the second source's own loop, from which Nx is reached. vs: the block's names; vs1: those of the second target -/
def tLc2 (wi : TI) (g : TG) (tt : TT) (wi1 : TI) (g1 : TG) (tt1 : TT) (te : TE) (vs vs1 : List Nat) : TE := fun σ H Q => wi σ H fun J H1 => ∀ D, H1 D = none → ∃ W : Nat → Nat → Hp → Prop, (∃ m, W 0 m (upd H1 D (.lst []))) ∧ ∀ i m H, W i m H →
  (J.stop i H ∧ Q (.ref D) H) ∨ (J.go i H ∧ ∃ Nx : Hp → Prop, (∀ H', Nx H' → ∃ m', m' < m ∧ W (i + 1) m' H') ∧ ∀ x H', J.yld i H x H' → g x (wipe σ vs) H' fun σ2 H2 => wipe σ2 vs = wipe σ vs ∧ tt σ2 H2 fun b H3 =>
    if b = true then wi1 σ2 H3 fun J1 H4 => ∃ W1 : Nat → Nat → Hp → Prop, (∃ m, W1 0 m H4) ∧ ∀ j k H, W1 j k H →
      (J1.stop j H ∧ Nx H) ∨ (J1.go j H ∧ ∃ Nx1 : Hp → Prop, (∀ H', Nx1 H' → ∃ k', k' < k ∧ W1 (j + 1) k' H') ∧ ∀ x H', J1.yld j H x H' → g1 x (wipe σ2 vs1) H' fun σ3 H5 => wipe σ3 vs1 = wipe σ2 vs1 ∧ tt1 σ3 H5 fun b H6 =>
        if b = true then te σ3 H6 fun y H7 => ∃ acc, H7 D = some (.lst acc) ∧ acc.length < sizeLine ∧ Nx1 (upd H7 D (.lst (acc ++ [y]))) else Nx1 H6)
    else Nx H3)
end
end L2

namespace L2
open PySem PySem.Spec PyProof.Rows

/-! ### lists of pairs as tables -/
section
variable {κ : Type} [DecidableEq κ]
def valV (kvs : List (κ × V)) (k : κ) : Option V := (kvs.find? fun kv => decide (kv.1 = k)).map (·.2)
/-- in its place, or at the end -/
def putK (kvs : List (κ × V)) (k : κ) (v : V) : List (κ × V) :=
  if (kvs.any fun kv => decide (kv.1 = k)) = true then kvs.map (fun kv => if kv.1 = k then (kv.1, v) else kv) else kvs ++ [(k, v)]
def dropK (kvs : List (κ × V)) (k : κ) : List (κ × V) := kvs.filter fun kv => decide (kv.1 ≠ k)

end


/-! ### a tracked dict, its keys ints and texts or tuples of these -/
/-- raw entries of a dict with tuple keys -/
abbrev KT (H : Hp) : List (List Key × V) → List (List Key × Addr × Value) → Prop := Paired fun p q => p.1 = q.1 ∧ H q.2.1 = some (.tup (p.1.map kV)) ∧ RelV p.2 q.2.2
section
variable {P : Program} {w : World} {H : Hp} {h : Heap} {a : Addr}
end

/-- what the dict at a holds at the key y -/
def DGet (H : Hp) (a : Addr) (y : V) (r : Option V) : Prop :=
  (∃ kvs k, Rd H a (.dK kvs) ∧ y = kV k ∧ r = valV kvs k) ∨ ∃ kvs k b, Rd H a (.dT kvs) ∧ y = .ref b ∧ H b = some (.tup (k.map kV)) ∧ r = valV kvs k
/-- the heap behind a[y] = v -/
def DPut (H : Hp) (a : Addr) (y v : V) (H' : Hp) : Prop :=
  (∃ kvs k, H a = some (.dK kvs) ∧ y = kV k ∧ kvs.length < sizeLine ∧ H' = upd H a (.dK (putK kvs k v))) ∨
  ∃ kvs k b, H a = some (.dT kvs) ∧ y = .ref b ∧ H b = some (.tup (k.map kV)) ∧ kvs.length < sizeLine ∧ H' = upd H a (.dT (putK kvs k v))
section
variable {X : Cx} {pins : List (Addr × Obj)} {σ : St} {H : Hp} {s : Shared} {a : Addr} {y v : V} {u r : Value} {o : Option V} {A : Around} {E : Value → Shared → Prop}

end

section
variable {X : Cx} {pins : List (Addr × Obj)} {σ : St} {H : Hp} {s : Shared} {a : Addr} {kvs : List (Key × V)} {k : Key} {u : Value} {A : Around} {E : Value → Shared → Prop}
end


/-! ### readings and rules -/
/-- the element of a subscription, not a slice -/
def NoSl (i : Expr) : Prop := ∀ ov iv, subscripted i false ov iv = operate [ov, iv] (getItem ov iv)
/-- d[y] -/
def tDGet (td ty : TE) : TE := fun σ H Q => td σ H fun x H1 => ty σ H1 fun y H2 => ∃ a v, x = .ref a ∧ DGet H2 a y (some v) ∧ Q v H2
/-- y in d, y not in d -/
def tDIn (ty td : TE) : TE := fun σ H Q => ty σ H fun y H1 => td σ H1 fun x H2 => ∃ a o, x = .ref a ∧ DGet H2 a y o ∧ Q (.bl o.isSome) H2
def tDNotIn (ty td : TE) : TE := fun σ H Q => ty σ H fun y H1 => td σ H1 fun x H2 => ∃ a o, x = .ref a ∧ DGet H2 a y o ∧ Q (.bl (!o.isSome)) H2
/-- d[y] = v -/
def sDPut (td ty tv : TE) : TS := fun D σ H => tv σ H fun v H1 => td σ H1 fun x H2 => ty σ H2 fun y H3 => ∃ a H4, x = .ref a ∧ DPut H3 a y v H4 ∧ D.nx σ H4
/-- d[y] op= v -/
def sDAug (td ty tv : TE) (rd : V → V → Hp → VK → Prop) : TS := fun D σ H => td σ H fun x H1 => ty σ H1 fun y H2 => ∃ a v, x = .ref a ∧ DGet H2 a y (some v) ∧
  tv σ H2 fun y2 H3 => rd v y2 H3 fun z H4 => ∃ H5, DPut H4 a y z H5 ∧ D.nx σ H5
/-- del d[y] -/
def sDDel (td ty : TE) : TS := fun D σ H => td σ H fun x H1 => ty σ H1 fun y H2 => ∃ a kvs k, x = .ref a ∧ H2 a = some (.dK kvs) ∧ y = kV k ∧ (valV kvs k).isSome = true ∧ D.nx σ (upd H2 a (.dK (dropK kvs k)))

section
variable {X : Cx} {o i e value : Expr} {pos pos' tpos : Pos} {td ty tv : TE}
end


/-! ### displays -/
/-- {}, to be a dict of the kind that is wanted -/
def tDNewK : TE := fun _ H Q => ∀ p, H p = none → Q (.ref p) (upd H p (.dK []))
def tDNewT : TE := fun _ H Q => ∀ p, H p = none → Q (.ref p) (upd H p (.dT []))
section
variable {X : Cx} {pos : Pos}
end

/-- the pairs of a display, from the left -/
def tPairs : List (TE × TE) → St → Hp → (List (V × V) → Hp → Prop) → Prop
  | [], _, H, Q => Q [] H
  | (tk, tv) :: r, σ, H, Q => tk σ H fun x H1 => tv σ H1 fun y H2 => tPairs r σ H2 fun ps H3 => Q ((x, y) :: ps) H3
abbrev VV : List (V × V) → List (Value × Value) → Prop := Paired fun p q => RelV p.1 q.1 ∧ RelV p.2 q.2
def PPs (X : Cx) (pos : Pos) (keys : List (Option Expr)) (values : List Expr) (trs : List (TE × TE)) : Prop :=
  ∀ (pins : List (Addr × Obj)) (s : Shared) (σ : St) (H : Hp) (Q : List (V × V) → Hp → Prop), Inv X pins σ H s → tPairs trs σ H Q →
    wpAny (model X.prog X.w) X.A (evalPairs (pairTrees keys values X.env pos)) (fun vs s' => ∃ ps H', Inv X pins σ H' s' ∧ VV ps vs ∧ Q ps H') X.xe s
def mergeK (kvs more : List (Key × V)) : List (Key × V) := more.foldl (fun acc kv => putK acc kv.1 kv.2) kvs
/-- {k: v, ..} with keys ints and texts; the new dict stands empty while the pairs are made -/
def tDisp (trs : List (TE × TE)) : TE := fun σ H Q => ∀ p, H p = none → tPairs trs σ (upd H p (.dK [])) fun ps H2 => H2 p = some (.dK []) ∧ ∃ kvs : List (Key × V), ps = kvs.map (fun kv => (kV kv.1, kv.2)) ∧ kvs.length ≤ 15 ∧ Q (.ref p) (upd H2 p (.dK (mergeK [] kvs)))
/-! ### methods -/
/-- a method call o.m(e) of a built-in, with one argument: what must be seen of the text -/
structure M1 (X : Cx) (o : Expr) (m : Str) (apos : Pos) (e : Expr) (cpos : Pos) : Prop where
  base : attributeBase o m X.env (eval o X.env) = eval o X.env
  few : ((backTo cpos (starEach [e] X.env)).all (fun x => !x.1) && (backToKw cpos (keywordEach [] X.env)).all (fun x => x.1.isSome)
    && decide (([e] : List Expr).length + ([] : List Keyword).length + (if ([] : List Keyword).isEmpty then 0 else 1) < 30)) = true
  line : (apos.endLine == cpos.line) = true
  trees : backTo cpos (starEach [e] X.env) = [(false, eval e X.env)]
structure M2 (X : Cx) (o : Expr) (m : Str) (apos : Pos) (e f : Expr) (cpos : Pos) : Prop where
  base : attributeBase o m X.env (eval o X.env) = eval o X.env
  few : ((backTo cpos (starEach [e, f] X.env)).all (fun x => !x.1) && (backToKw cpos (keywordEach [] X.env)).all (fun x => x.1.isSome)
    && decide (([e, f] : List Expr).length + ([] : List Keyword).length + (if ([] : List Keyword).isEmpty then 0 else 1) < 30)) = true
  line : (apos.endLine == cpos.line) = true
  trees : backTo cpos (starEach [e, f] X.env) = [(false, eval e X.env), (false, eval f X.env)]

/-- a is a dict, whatever its keys -/
def IsD (H : Hp) (a : Addr) : Prop := (∃ kvs, Rd H a (.dK kvs)) ∨ ∃ kvs, Rd H a (.dT kvs)
section
variable {X : Cx} {pins : List (Addr × Obj)} {σ : St} {H : Hp} {s : Shared} {a : Addr} {y d : V} {u r : Value} {o : Option V} {A : Around} {E : Value → Shared → Prop}
end

def tDGet1 (td ty : TE) : TE := fun σ H Q => td σ H fun x H1 => ∃ a, x = .ref a ∧ IsD H1 a ∧ ty σ H1 fun y H2 => ∃ o, DGet H2 a y o ∧ Q (o.getD .non) H2
def tDGet2 (td ty tx : TE) : TE := fun σ H Q => td σ H fun x H1 => ∃ a, x = .ref a ∧ IsD H1 a ∧ ty σ H1 fun y H2 => tx σ H2 fun z H3 => ∃ o, DGet H3 a y o ∧ Q (o.getD z) H3
/-- d.pop(k): there; d.pop(k, x): there or not -/
def tDPop1 (td ty : TE) : TE := fun σ H Q => td σ H fun x H1 => ∃ a, x = .ref a ∧ IsD H1 a ∧ ty σ H1 fun y H2 => ∃ kvs k v, H2 a = some (.dK kvs) ∧ y = kV k ∧ valV kvs k = some v ∧ Q v (upd H2 a (.dK (dropK kvs k)))
def tDPop2 (td ty tx : TE) : TE := fun σ H Q => td σ H fun x H1 => ∃ a, x = .ref a ∧ IsD H1 a ∧ ty σ H1 fun y H2 => tx σ H2 fun z H3 => ∃ kvs k, H3 a = some (.dK kvs) ∧ y = kV k ∧
  (∀ v, valV kvs k = some v → Q v (upd H3 a (.dK (dropK kvs k)))) ∧ (valV kvs k = none → Q z H3)
section
variable {X : Cx} {o e f : Expr} {apos cpos : Pos} {td ty tx : TE}
end

/-! ### dict(d): a copy -/
section
variable {X : Cx} {pins : List (Addr × Obj)} {σ : St} {H : Hp} {s : Shared} {a : Addr} {kvs : List (Key × V)} {A : Around} {E : Value → Shared → Prop}
end


section
variable {X : Cx} {pins : List (Addr × Obj)} {σ : St} {H : Hp} {s : Shared} {a : Addr} {y : V} {u : Value} {A : Around} {E : Value → Shared → Prop}
end
end L2

namespace L2
open PySem PySem.Spec PyProof.Rows

section
variable {prog : Program} {w : World} {A : Around} {E : Value → Shared → Prop}
end

section
variable {X : Cx}
end
end L2

namespace L2
open PySem PySem.Spec PyProof.Rows

section
variable {X : Cx} {pins : List (Addr × Obj)} {σ : St} {H : Hp} {s : Shared} {h' : Heap}
/-! ### locking a thing while a statement runs -/
end
/-- the statement runs while the thing at d is locked (read, not written); d and what stands there are the reading's choice -/
def tLock (t : TS) : TS := fun D σ H => ∃ d u, H d = some u ∧ Mut (some u) ∧ ∀ od, t ⟨fun σ' H' => H' d = some (.frz od u) ∧ D.nx σ' (upd H' d u), fun v H' => H' d = some (.frz od u) ∧ D.rt v (upd H' d u), fun σ' H' => H' d = some (.frz od u) ∧ D.bk σ' (upd H' d u), fun σ' H' => H' d = some (.frz od u) ∧ D.ct σ' (upd H' d u)⟩ σ (upd H d (.frz od u))
def tLockE (t : TE) : TE := fun σ H Q => ∃ d u, H d = some u ∧ Mut (some u) ∧ ∀ od, t σ (upd H d (.frz od u)) fun v H' => H' d = some (.frz od u) ∧ Q v (upd H' d u)
section
variable {X : Cx}
/-! ### one iterator just laid -/
end

/-! ### range with a step -/
/-- lo, lo + c, .. (n of them) -/
def Itc (lo c : Int) (n : Nat) : It := ⟨fun i _ => i < n, fun i H x H' => H' = H ∧ x = .int (lo + (i : Nat) * c), fun i _ => n ≤ i⟩
/-- range(i, j, c): small bounds, n items -/
def RgC (i j c : Int) (n : Nat) : Prop := c ≠ 0 ∧ c.natAbs < 1073741824 ∧ Builtin.Range.small i j c = true ∧ Builtin.Range.rangeSize i j c = n
def iRng3 (ta : TA) : TI := fun σ H R => ta σ H fun vs H1 => ∃ (i j c : Int) (n : Nat), vs = [.int i, .int j, .int c] ∧ RgC i j c n ∧ R (Itc i c n) H1
section
variable {X : Cx} {tg : Expr}
end
/-! ### reversed(list) -/
/-- the list at a (n items at the start, which the loop leaves there), from its end -/
def Itv (K : PySem.W.Frag) (a : Addr) (n : Nat) : It :=
  ⟨fun i H => i < n ∧ ∃ (xs : List V) (x : V), SqL K H a xs ∧ xs[n - 1 - i]? = some x, fun i H x H' => H' = H ∧ ∀ xs, SqL K H a xs → xs[n - 1 - i]? = some x, fun i _ => n ≤ i⟩
def iRev (K : PySem.W.Frag) (ta : TA) : TI := fun σ H R => ta σ H fun vs H1 => ∃ (a : Addr) (xs : List V), vs = [.ref a] ∧ SqL K H1 a xs ∧ R (Itv K a xs.length) H1
section
variable {X : Cx} {tg : Expr}
end

/-! ### a str -/
def Its (x : Str) : It := ⟨fun i _ => i < x.cps.size, fun i H v H' => H' = H ∧ ∃ c, x.cps[i]? = some c ∧ v = .str ⟨#[c]⟩, fun i _ => x.cps.size ≤ i⟩
def iStr (te : TE) : TI := fun σ H R => te σ H fun v H1 => ∃ x, v = .str x ∧ R (Its x) H1
/-! ### a dict's keys: any dict's entries -/
section
variable {prog : Program} {w : World} {A : Around} {E : Value → Shared → Prop} {s : Shared}
end

/-! ### a locked dict -/
section
variable {X : Cx} {pins : List (Addr × Obj)} {σ : St} {H : Hp} {s : Shared} {d : Addr} {o : Obj}
end

/-- the keys of the locked dict at d, in their order -/
def Itk (d : Addr) (o : Obj) (kvs : List (Key × V)) : It :=
  ⟨fun i H => H d = some (.frz o (.dK kvs)) ∧ i < kvs.length, fun i H x H' => H' = H ∧ ∃ k v, kvs[i]? = some (k, v) ∧ x = kV k, fun i H => H d = some (.frz o (.dK kvs)) ∧ kvs.length ≤ i⟩
/-- .. of tuple keys: the key's own tuple -/
def Itkt (d : Addr) (o : Obj) (kvs : List (List Key × V)) : It :=
  ⟨fun i H => H d = some (.frz o (.dT kvs)) ∧ i < kvs.length, fun i H x H' => H' = H ∧ ∃ (k : List Key) (v : V) (q : Addr), kvs[i]? = some (k, v) ∧ x = .ref q ∧ H q = some (.tup (k.map kV)), fun i H => H d = some (.frz o (.dT kvs)) ∧ kvs.length ≤ i⟩
/-- the values -/
def Itd (d : Addr) (o : Obj) (kvs : List (Key × V)) : It :=
  ⟨fun i H => H d = some (.frz o (.dK kvs)) ∧ i < kvs.length, fun i H x H' => H' = H ∧ ∃ k, kvs[i]? = some (k, x), fun i H => H d = some (.frz o (.dK kvs)) ∧ kvs.length ≤ i⟩
/-- the pairs, each a new tuple -/
def Iti (d : Addr) (o : Obj) (kvs : List (Key × V)) : It :=
  ⟨fun i H => H d = some (.frz o (.dK kvs)) ∧ i < kvs.length, fun i H x H' => ∃ T k v, kvs[i]? = some (k, v) ∧ x = .ref T ∧ H T = none ∧ H' = upd H T (.tup [kV k, v]), fun i H => H d = some (.frz o (.dK kvs)) ∧ kvs.length ≤ i⟩
section
variable {P : Program} {w : World} {K : PySem.W.Frag} {tg : Expr} {d : Addr} {o : Obj} {es : Array DictEntry} {ep : Nat}
end

/-! ### for k in d, d.keys(), d.values(), d.items() -/
/-- the dict is locked (tLock, or by the caller) -/
def iKeys (td : TE) : TI := fun σ H R => td σ H fun x H1 => ∃ d o, x = .ref d ∧ ((∃ kvs, H1 d = some (.frz o (.dK kvs)) ∧ R (Itk d o kvs) H1) ∨ ∃ kvs, H1 d = some (.frz o (.dT kvs)) ∧ R (Itkt d o kvs) H1)
def iVals (td : TE) : TI := fun σ H R => td σ H fun x H1 => ∃ d o kvs, x = .ref d ∧ H1 d = some (.frz o (.dK kvs)) ∧ R (Itd d o kvs) H1
def iItems (td : TE) : TI := fun σ H R => td σ H fun x H1 => ∃ d o kvs, x = .ref d ∧ H1 d = some (.frz o (.dK kvs)) ∧ R (Iti d o kvs) H1
def iKeysM (td : TE) : TI := fun σ H R => td σ H fun x H1 => ∃ d o kvs, x = .ref d ∧ H1 d = some (.frz o (.dK kvs)) ∧ R (Itk d o kvs) H1
section
variable {X : Cx} {tg e : Expr} {td : TE} {apos cpos : Pos}
end

/-! ### enumerate(list) -/
/-- the list at a as it stands at each turn, each item in a new pair -/
def Ite (K : PySem.W.Frag) (a : Addr) : It :=
  ⟨fun i H => ∃ (xs : List V) (x : V), SqL K H a xs ∧ xs[i]? = some x, fun i H v H' => ∃ T x, v = .ref T ∧ H T = none ∧ H' = upd H T (.tup [.int (i : Nat), x]) ∧ ∀ xs, SqL K H a xs → xs[i]? = some x, fun i H => ∃ xs : List V, SqL K H a xs ∧ xs.length ≤ i⟩
def iEnum (K : PySem.W.Frag) (ta : TA) : TI := fun σ H R => ta σ H fun vs H1 => ∃ a xs, vs = [.ref a] ∧ SqL K H1 a xs ∧ R (Ite K a) H1
/-! ### zip(list, list) -/
/-- the lists at a and b as they stand at each turn, the items in new pairs -/
def Itz (K : PySem.W.Frag) (a b : Addr) : It :=
  ⟨fun i H => ∃ (xs ys : List V) (x y : V), SqL K H a xs ∧ SqL K H b ys ∧ xs[i]? = some x ∧ ys[i]? = some y,
    fun i H v H' => ∃ T x y, v = .ref T ∧ H T = none ∧ H' = upd H T (.tup [x, y]) ∧ (∀ xs, SqL K H a xs → xs[i]? = some x) ∧ ∀ ys, SqL K H b ys → ys[i]? = some y,
    fun i H => ∃ xs ys : List V, SqL K H a xs ∧ SqL K H b ys ∧ (xs.length ≤ i ∨ ys.length ≤ i)⟩
def iZip (K : PySem.W.Frag) (ta : TA) : TI := fun σ H R => ta σ H fun vs H1 => ∃ a b xs ys, vs = [.ref a, .ref b] ∧ SqL K H1 a xs ∧ SqL K H1 b ys ∧ R (Itz K a b) H1
end L2

section 
namespace Bits
open PySem PyProof.Rows

end Bits
end 

section 
namespace TL
open PySem PySem.Builtin PySem.Builtin.Str PySem.StrLaws

abbrev tl (x : Str) : List Nat := x.cps.toList
/-! ### the list functions -/
/-- S stands at the head of l -/
def pre (S l : List Nat) : Bool := l.take S.length == S
/-- l cut at each S from the left; k signs are still to be passed over -/
def spl (S : List Nat) : Nat → List Nat → List Nat → List (List Nat)
  | _, acc, [] => [acc]
  | 0, acc, c :: r => if pre S (c :: r) = true then acc :: spl S (S.length - 1) [] r else spl S 0 (acc ++ [c]) r
  | k + 1, acc, _ :: r => spl S k acc r
/-- what stands before the first S, and behind it -/
def par (S : List Nat) : List Nat → List Nat → Option (List Nat × List Nat)
  | _, [] => none
  | acc, c :: r => if pre S (c :: r) = true then some (acc, (c :: r).drop S.length) else par S (acc ++ [c]) r

/-! ### the model's split and partition are these -/
/-! ### computing spl and par -/
/-- joined lists -/
def joinL (S : List Nat) : List (List Nat) → List Nat
  | [] => []
  | [p] => p
  | p :: q :: r => p ++ (S ++ joinL S (q :: r))
/-! ### digits -/
/-- the signs of a number -/
def numL (n : Nat) : List Nat := (Nat.toDigits 10 n).map Char.toNat
/-! ### words: x.split() -/
def wstep (st : List (List Nat) × List Nat) (c : Nat) : List (List Nat) × List Nat :=
  if Unicode.isSpace c = true then (if st.2 = [] then st else (st.1 ++ [st.2], [])) else (st.1, st.2 ++ [c])
def wfin (st : List (List Nat) × List Nat) : List (List Nat) := if st.2 = [] then st.1 else st.1 ++ [st.2]
end TL
end 

namespace L2
open PySem PySem.Spec PyProof.Rows

/-- a new list of texts, tracked -/
def rNewStrs (ys : List Str) : Hp → VK → Prop := fun H Q => ∀ p, H p = none → Q (.ref p) (upd H p (.lst (ys.map V.str)))

section
variable {X : Cx} {pins : List (Addr × Obj)} {σ : St} {H : Hp} {s : Shared} {Q : VK}
end

section
variable {X : Cx}

/-! ### of a text alone -/
/-! ### of a text and a text -/
end

section
variable {X : Cx} {o e : Expr} {to te : TE}
def tM0 (r : V → List V → Hp → VK → Prop) (to : TE) : TE := fun σ H Q => to σ H fun x H1 => (∃ a, x = .str a) ∧ r x [] H1 Q
def tM1 (r : V → List V → Hp → VK → Prop) (to te : TE) : TE := fun σ H Q => to σ H fun x H1 => (∃ a, x = .str a) ∧ te σ H1 fun y H2 => r x [y] H2 Q
end
end L2

namespace L2
open PySem PySem.Spec PyProof.Rows

section
variable {X : Cx}
end

/-! ### slices of a text -/
/-- a part, clipped, as the text's slice reckons it -/
def clipS (n d : Nat) : Option Int → Int
  | none => (d : Int)
  | some i => max 0 (min (if i < 0 then i + (n : Int) else i) (n : Int))
/-- z[lo:hi] -/
def cutS (z : Str) (lo hi : Option Int) : Str :=
  ⟨((z.cps.toList.drop (HT.sIx z.length 0 lo)).take (HT.sIx z.length z.length hi - HT.sIx z.length 0 lo)).toArray⟩
def rSlS : V → Option Int → Option Int → Hp → VK → Prop := fun x lo hi H Q => ∃ z, x = .str z ∧ z.length ≤ sizeLine ∧ Q (.str (cutS z lo hi)) H
end L2

namespace Att
open PySem PySem.W PySem.Calls PyProof.Rows

/-! ### the script -/
/-! ### the attachment: holds_open's last premise (the goal 'hc' behind k_head) from a wpAny of the law's body -/
/-! ### rules over ANY heap (no ledger) from facts about the written part K: the library's own take a ledger (News) for what they write -/
section
variable {prog : Program} {w : World} {A : Around} {E : Value → Shared → Prop} {s : Shared} {K : Frag}

/-! the whole heap as the ledger: makes every rule that writes through a ledger a rule over any heap -/
def noObjs (h : Heap) : Heap := { h with objs := #[] }
def ledger (h : Heap) (L d : Addr) : List (Addr × Obj) := (List.range h.objs.size).filterMap fun a => if a = L ∨ a = d then none else (h.get? a).map fun o => (a, o)
end
end Att

namespace L2
open PySem PySem.Spec PyProof.Rows

/-- nothing is tracked but the script, known to the object (or it is an object of the module) -/
def Only (H : Hp) : Prop := ∀ b, H b = none ∨ ∃ o xs, H b = some (.frz o (.lst xs))

end L2

namespace L2
open PySem PySem.Spec PyProof.Rows

abbrev KOf {K : PySem.W.Frag} {h : Heap} (_ : K.In h) : PySem.W.Frag := K

end L2


/-! SHORT WORDS over the layer: a def of the text, its body, what a loop and a test want. -/
namespace L2
open PySem PySem.Spec PyProof.Rows

/-! ### the text by places -/
/-- the j-th statement of a class's body -/
def inClass (s : Stmt) (j : Nat) : Stmt := match s with
  | .ClassDef _ _ _ body _ _ _ _ _ _ _ => body.getD j (.Pass ⟨0, 0, 0, 0⟩)
  | _ => .Pass ⟨0, 0, 0, 0⟩
def defArgs (s : Stmt) : Arguments := match s with
  | .FunctionDef _ a _ _ _ _ _ _ _ _ => a
  | _ => { posonlyargs := [], args := [], vararg := none, kwonlyargs := [], kw_defaults := [], kwarg := none, defaults := [] }
def defBody (s : Stmt) : List Stmt := match s with
  | .FunctionDef _ _ b _ _ _ _ _ _ _ => b
  | _ => []
def defScope (s : Stmt) : Scope := match s with
  | .FunctionDef _ _ _ _ _ _ sc _ _ _ => sc
  | _ => { kind := .function, names := [], isGenerator := false, isCoroutine := false }

/-! ### no exception leaves a def -/
abbrev CX0 : CXT := fun _ _ _ _ _ _ => False
abbrev E0 : XK := fun _ _ _ => False
theorem pass0 {X : Cx} : Passes CX0 X E0 := fun _ _ _ _ _ _ _ h => h.elim

/-! ### a def (or method) of the text as it stands behind the top -/
structure Fun (K : PySem.W.Frag) (x qual : Str) (st : Stmt) (f : Addr) (fd : FuncData) : Prop where
  ex : ∃ (oc : Value) (od : Option Addr) (kV doc pm : Value) (an : Option Addr) (cdv ct : Value) (osl : Array (Option Value)),
    fd = PySem.W.fnOf x qual (defArgs st) (defBody st) (defScope st) .none kV doc pm an cdv ct ∧ K.lookup f = some ⟨oc, od, .func fd, osl⟩ ∧ PySem.W.codeIn K cdv qual = true
  kp : PySem.W.keepIn K (.ref f) = true
section
variable {P : Program} {w : World} {K : PySem.W.Frag} {mg : Str → Option Value} {base : Heap}
/-- THE RULE for a def: its body as a term of rules, and the reading of that term -/
theorem Fun.ok {x qual : Str} {st : Stmt} {f : Addr} {fd : FuncData} {N ps : List Str} {k : Nat} {sp : Sp} (F : Fun K x qual st f fd) (S : FnScope N ps (defScope st)) (len : ∀ vs H Q E, sp vs H Q E → vs.length = ps.length)
    (hbody : ∀ (cdv : Value) (A : Around) (outer : List Env) (s : Shared) (H : Hp) (vs : List V) (Q : VK) (E : XK), Room k (A.deeper (envOfC qual (defScope st) s.heap.objs.size f cdv)) → sp vs H Q E →
      ∃ t, PSs (cxOf CX0 P w K mg base N qual (defScope st) f cdv A outer s H E).nox (defBody st) t ∧ t { nx := fun _ H' => Q .non H', rt := Q } (start N vs) H) : FnOk P w K mg base CX0 (k + 1) f fd ps sp := by
  obtain ⟨oc, od, kV, doc, pm, an, cdv, ct, osl, rfl, lk, hcd⟩ := F.ex
  refine fn_of lk hcd S len fun A outer s H vs Q E hr hsp => ?_
  obtain ⟨t, h, q⟩ := hbody cdv A outer s H vs Q E hr hsp
  exact ⟨t, h.nox, q⟩
/-- how its arguments bind (no defaults): h is «fun _ _ _ _ _ _ us hl => match us, hl with | [_, _], _ => rfl», one _ a parameter -/
theorem Fun.binds {x qual : Str} {st : Stmt} {f : Addr} {fd : FuncData} {ps : List Str} (F : Fun K x qual st f fd)
    (h : ∀ (kV doc pm : Value) (an : Option Addr) (cdv ct : Value) (us : List Value), us.length = ps.length → bindArgs (PySem.W.fnOf x qual (defArgs st) (defBody st) (defScope st) .none kV doc pm an cdv ct) ⟨us, []⟩ = pure (ps.zip us)) : Binds K fd ps [] := by
  obtain ⟨oc, od, kV, doc, pm, an, cdv, ct, osl, rfl, lk, hcd⟩ := F.ex
  exact .all (h kV doc pm an cdv ct)
theorem fun_mk {x qual : Str} {st : Stmt} {f : Addr} {oc : Value} {od an : Option Addr} {osl : Array (Option Value)} {kV doc pm cdv ct : Value} (l : K.lookup f = some ⟨oc, od, .func (PySem.W.fnOf x qual (defArgs st) (defBody st) (defScope st) .none kV doc pm an cdv ct), osl⟩)
    (c : PySem.W.codeIn K cdv qual = true) (k : PySem.W.keepIn K (.ref f) = true) : Fun K x qual st f (PySem.W.fnOf x qual (defArgs st) (defBody st) (defScope st) .none kV doc pm an cdv ct) := ⟨⟨oc, od, kV, doc, pm, an, cdv, ct, osl, rfl, l, c⟩, k⟩
end
/-! ### expressions in short: the name that stands in the i-th slot -/
section
variable {X : Cx}
theorem pv (i : Nat) {x : Str} {pos : Pos} (hN : X.N[i]? = some x := by rfl) (hv : Vis X.env.scope x := by first | exact Or.inl rfl | exact Or.inr (Or.inl rfl) | exact Or.inr (Or.inr rfl)) (hd : (x == ("__debug__" : Str)) = false := by decide)
    (hcd : (x == ("__classdict__" : Str)) = false := by decide) : PE X (.Name x pos) (tVar i) := pe_var hN hv hd hcd
end

/-! ### tests -/
theorem iteF {A B : Prop} (h : B) : if false = true then A else B := by
  rw [if_neg Bool.false_ne_true]
  exact h
theorem iteT {A B : Prop} (h : A) : if true = true then A else B := by
  rw [if_pos rfl]
  exact h
theorem iteNS {c A B : Prop} [Decidable c] (hc : c) (h : B) : if (!decide c) = true then A else B := by
  rw [decide_eq_true hc]
  exact iteF h

/-! ### heaps -/
/-- all that was tracked is as it was -/
def Same (H H' : Hp) : Prop := ∀ b o, H b = some o → H' b = some o
theorem Same.refl (H : Hp) : Same H H := fun _ _ h => h
theorem Same.trans {H H1 H2 : Hp} (a : Same H H1) (b : Same H1 H2) : Same H H2 := fun c o h => b c o (a c o h)
theorem Same.free {H H' : Hp} (e : Same H H') {l : Addr} (h : H' l = Option.none) : H l = Option.none := by
  cases q : H l with
  | none => rfl
  | some o =>
    rw [e l o q] at h
    cases h
theorem Same.seq {K : PySem.W.Frag} {H H' : Hp} {a : Addr} {xs : List V} (e : Same H H') (h : SqL K H a xs) : SqL K H' a xs := by
  rcases h with (h | ⟨o, h⟩) | h
  · exact .inl (.inl (e _ _ h))
  · exact .inl (.inr ⟨o, e _ _ h⟩)
  · exact .inr h

/-! ### a dict's pairs: keys that differ -/
section
variable {κ : Type} [DecidableEq κ]
end
/-! ### lists -/
end L2

section
set_option Elab.async false
set_option linter.all false
set_option maxRecDepth 100000
set_option maxHeartbeats 2000000
namespace L2
open PySem PySem.Spec PyProof.Rows
open PySem.W (WData Codec OpenSpec Well WellAll ReadsW ReadsAllW)
/-! ### an answer as data -/
mutual
/-- x stands for the datum d, lists and tuples all the way -/
inductive Dw (K : PySem.W.Frag) (H : Hp) : V → WData → Prop
  | non : Dw K H .non .none
  | bl (b : Bool) : Dw K H (.bl b) (.bool b)
  | int (i : Int) : Dw K H (.int i) (.int i)
  | str (x : Str) : Dw K H (.str x) (.str x)
  | byt (b : Array UInt8) : Dw K H (.byt b) (.bytes b.toList)
  | lst {a : Addr} {xs : List V} {ds : List WData} : SqL K H a xs → DwAll K H xs ds → Dw K H (.ref a) (.list ds)
  | tup {a : Addr} {xs : List V} {ds : List WData} : SqT K H a xs → DwAll K H xs ds → Dw K H (.ref a) (.tuple ds)
inductive DwAll (K : PySem.W.Frag) (H : Hp) : List V → List WData → Prop
  | nil : DwAll K H [] []
  | cons {v : V} {vs : List V} {d : WData} {ds : List WData} : Dw K H v d → DwAll K H vs ds → DwAll K H (v :: vs) (d :: ds)
end
theorem dw_ints {K : PySem.W.Frag} {H : Hp} : ∀ ns : List Int, DwAll K H (ns.map V.int) (ns.map WData.int)
  | [] => .nil
  | n :: r => .cons (.int n) (dw_ints r)
theorem ints_dw {K : PySem.W.Frag} {H : Hp} : ∀ (ns : List Int) (xs : List V), DwAll K H xs (ns.map WData.int) → xs = ns.map V.int
  | [], xs, h => by
    cases h
    rfl
  | n :: r, xs, h => by
    cases h with
    | cons h1 h2 =>
      cases h1
      rw [ints_dw r _ h2] <;> rfl
section
variable {P : Program} {w : World} {K : PySem.W.Frag} {H : Hp} {h : Heap} {R : PySem.W.WRecords} {cl : Str → Option Addr}
theorem sqL_at {a : Addr} {xs : List V} (hok : HOk P w H h) (KX : K.In h) (q : SqL K H a xs) : ∃ (its : List Value) (o : Obj) (n : Nat), Vals xs its ∧ h.get? a = some o ∧ o.cls = .type "list" ∧ o.data = .seq its.toArray n := by
  rcases q with q | ⟨o, its, n, e, hc, _, hd, _, hv⟩
  · obtain ⟨_, its, n, hv, e⟩ := (show ObjOk P w H h a (.lst xs) from q.ok hok)
    exact ⟨its, _, n, hv, e, rfl, rfl⟩
  · exact ⟨its.toList, o, n, hv, KX _ _ e, hc, by simp [hd]⟩
theorem sqT_at {a : Addr} {xs : List V} (hok : HOk P w H h) (KX : K.In h) (q : SqT K H a xs) : ∃ (its : List Value) (o : Obj) (n : Nat), Vals xs its ∧ h.get? a = some o ∧ o.cls = .type "tuple" ∧ o.data = .seq its.toArray n := by
  rcases q with q | ⟨o, its, n, e, hc, hd, _, hv⟩
  · obtain ⟨_, its, hv, o, e, hc, n, hd⟩ := (show ObjOk P w H h a (.tup xs) from q.ok hok)
    exact ⟨its, o, n, hv, e, hc, hd⟩
  · exact ⟨its.toList, o, n, hv, KX _ _ e, hc, by simp [hd]⟩
mutual
theorem Dw.reads (hok : HOk P w H h) (KX : K.In h) : ∀ (d : WData) (v : V) (u : Value), Dw K H v d → RelV v u → ∃ as, ReadsW R cl h u d as
  | .none, _, _, x, r => by
    cases x
    cases r
    exact ⟨_, ReadsW.none⟩
  | .bool b, _, _, x, r => by
    cases x
    cases r
    exact ⟨_, ReadsW.bool b⟩
  | .int i, _, _, x, r => by
    cases x
    obtain ⟨t, rfl⟩ := r
    exact ⟨_, ReadsW.int i t⟩
  | .str s, _, _, x, r => by
    cases x
    obtain ⟨t, rfl⟩ := r
    exact ⟨_, ReadsW.str s t⟩
  | .bytes b, _, _, x, r => by
    cases x
    obtain ⟨t, rfl⟩ := r
    exact ⟨_, ReadsW.bytes _ t⟩
  | .list ds, _, _, x, r => by
    cases x with
    | lst hs ha =>
      cases r
      obtain ⟨its, o, n, rv, ho, hc, hd⟩ := sqL_at hok KX hs
      obtain ⟨as, hr⟩ := Dw.readsAll hok KX ds _ its ha rv
      exact ⟨_, ReadsW.list ho hc hd hr⟩
  | .tuple ds, _, _, x, r => by
    cases x with
    | tup hs ha =>
      cases r
      obtain ⟨its, o, n, rv, ho, hc, hd⟩ := sqT_at hok KX hs
      obtain ⟨as, hr⟩ := Dw.readsAll hok KX ds _ its ha rv
      exact ⟨_, ReadsW.tuple ho hc hd hr⟩
  | .float _, _, _, x, _ => by cases x
  | .dict _, _, _, x, _ => by cases x
  | .bytearray _, _, _, x, _ => by cases x
  | .set _, _, _, x, _ => by cases x
  | .frozenset _, _, _, x, _ => by cases x
  | .obj _ _, _, _, x, _ => by cases x
theorem Dw.readsAll (hok : HOk P w H h) (KX : K.In h) : ∀ (ds : List WData) (vs : List V) (us : List Value), DwAll K H vs ds → Vals vs us → ∃ as, ReadsAllW R cl h us ds as
  | [], _, _, x, r => by
    cases x
    cases r
    exact ⟨_, ReadsAllW.nil⟩
  | d :: ds, _, _, x, r => by
    cases x with
    | cons h1 h2 =>
      cases r with
      | cons r1 r2 =>
        obtain ⟨as, q1⟩ := Dw.reads hok KX d _ _ h1 r1
        obtain ⟨bs, q2⟩ := Dw.readsAll hok KX ds _ _ h2 r2
        exact ⟨_, ReadsAllW.cons q1 q2⟩
end
end
/-! ### the arguments -/
mutual
/-- data that a codec tells -/
def plW : WData → Bool
  | .none => true
  | .bool _ => true
  | .int _ => true
  | .str _ => true
  | .bytes _ => true
  | .list xs => plWs xs
  | .tuple xs => plWs xs
  | _ => false
def plWs : List WData → Bool
  | [] => true
  | x :: r => plW x && plWs r
end
theorem plWs_map {α : Type} {f : α → WData} (h : ∀ a, plW (f a) = true) : ∀ l : List α, plWs (l.map f) = true
  | [] => rfl
  | x :: r => by
    show (plW (f x) && plWs (r.map f)) = true
    rw [h x, plWs_map h r] <;> rfl
theorem pl_enc : ∀ (c : Codec) (a : c.denote), plW (c.enc a) = true
  | .unit, _ => rfl
  | .bool, _ => rfl
  | .int _ _, _ => rfl
  | .nat _ _, _ => rfl
  | .u8, _ => rfl
  | .bytes _ _, _ => rfl
  | .text _ _ _ _, _ => rfl
  | .list _ _ c, a => plWs_map (fun x => pl_enc c x) a
  | .pair c d, a => by
    show (plW (c.enc a.1) && (plW (d.enc a.2) && true)) = true
    rw [pl_enc c a.1, pl_enc d a.2] <;> rfl
  | .triple c d e, a => by
    show (plW (c.enc a.1) && (plW (d.enc a.2.1) && (plW (e.enc a.2.2) && true))) = true
    rw [pl_enc c a.1, pl_enc d a.2.1, pl_enc e a.2.2] <;> rfl
  | .option c, none => rfl
  | .option c, some x => pl_enc c x
theorem pl_encAll : ∀ (cs : List Codec) (a : Codec.denoteAll cs), plWs (Codec.encAll cs a) = true
  | [], _ => rfl
  | c :: cs, a => by
    show (plW (c.enc a.1) && plWs (Codec.encAll cs a.2)) = true
    rw [pl_enc c a.1, pl_encAll cs a.2] <;> rfl
theorem weight_mem : ∀ {xs : List WData} {d : WData}, d ∈ xs → d.weight ≤ WData.weightAll xs
  | [], d, h => absurd h (by simp)
  | x :: r, d, h => by
    show d.weight ≤ x.weight + 1 + WData.weightAll r
    rcases List.mem_cons.mp h with e | m
    · rw [e]
      omega
    · have z := weight_mem m
      omega
def toV : Value → V
  | .none => .non
  | .bool b => .bl b
  | .int i _ => .int i
  | .str x _ => .str x
  | .bytes b _ => .byt b
  | .ref a => .ref a
  | _ => .non
/-- a value of the arguments, its objects among A -/
def OkU (A : List Addr) : Value → Prop
  | .none => True
  | .bool _ => True
  | .int _ _ => True
  | .str _ _ => True
  | .bytes _ _ => True
  | .ref a => a ∈ A
  | _ => False
theorem OkU.mono {A B : List Addr} (h : ∀ a ∈ A, a ∈ B) : ∀ {u : Value}, OkU A u → OkU B u := fun {u} x => by
  cases u with
  | ref a => exact h a x
  | none => trivial
  | bool b => trivial
  | int i t => trivial
  | str s t => trivial
  | bytes b t => trivial
  | _ => exact False.elim x
theorem relV_toV {A : List Addr} {u : Value} (x : OkU A u) : RelV (toV u) u := by
  cases u with
  | ref a => rfl
  | none => rfl
  | bool b => rfl
  | int i t => exact ⟨t, rfl⟩
  | str s t => exact ⟨t, rfl⟩
  | bytes b t => exact ⟨t, rfl⟩
  | _ => exact False.elim x
theorem vals_toV {A : List Addr} : ∀ {vs : List Value}, (∀ u ∈ vs, OkU A u) → Vals (vs.map toV) vs
  | [], _ => .nil
  | u :: r, h => .cons (relV_toV (h u (List.mem_cons_self ..))) (vals_toV fun x hx => h x (List.mem_cons_of_mem _ hx))
/-- an object of the arguments -/
def ArgOb (h : Heap) (A : List Addr) (a : Addr) : Prop := ∃ vs : List Value, vs.length ≤ sizeLine ∧ (∀ u ∈ vs, OkU A u) ∧
  (h.get? a = some { cls := .type "list", data := .seq vs.toArray } ∨ h.get? a = some { cls := .type "tuple", data := .seq vs.toArray })
theorem ArgOb.mono {h : Heap} {A B : List Addr} {a : Addr} (k : ∀ a ∈ A, a ∈ B) (x : ArgOb h A a) : ArgOb h B a := by
  obtain ⟨vs, h1, h2, h3⟩ := x
  exact ⟨vs, h1, fun u hu => (h2 u hu).mono k, h3⟩
theorem wellAll_len {P : Params} {h : Heap} : ∀ {vs : List Value} {ds : List WData}, WellAll P h vs ds → vs.length = ds.length
  | _, _, .nil => rfl
  | _, _, .cons _ b => by
    show _ + 1 = _ + 1
    rw [wellAll_len b]
theorem well_list {P : Params} {h : Heap} {v : Value} {ds : List WData} (x : Well P h v (.list ds)) : ∃ (a : Addr) (vs : List Value), v = .ref a ∧ h.get? a = some { cls := .type "list", data := .seq vs.toArray } ∧ WellAll P h vs ds := by
  cases x with
  | list ho hall => exact ⟨_, _, rfl, ho, hall⟩
theorem well_tuple {P : Params} {h : Heap} {v : Value} {ds : List WData} (x : Well P h v (.tuple ds)) : ∃ (a : Addr) (vs : List Value), v = .ref a ∧ h.get? a = some { cls := .type "tuple", data := .seq vs.toArray } ∧ WellAll P h vs ds := by
  cases x with
  | tuple ho hall => exact ⟨_, _, rfl, ho, hall⟩
theorem well_cons {P : Params} {h : Heap} {us : List Value} {d : WData} {ds : List WData} (x : WellAll P h us (d :: ds)) : ∃ (v : Value) (vs : List Value), us = v :: vs ∧ Well P h v d ∧ WellAll P h vs ds := by
  cases x with
  | cons a b => exact ⟨_, _, rfl, a, b⟩
theorem line_of {n : Nat} (h : n ≤ 1048576) : n ≤ sizeLine := Nat.le_trans h (by decide)
section
variable {P : Params} {h : Heap}
mutual
theorem area_one : ∀ (d : WData) (v : Value), Well P h v d → plW d = true → d.weight ≤ 1048576 → ∃ A : List Addr, OkU A v ∧ ∀ a ∈ A, ArgOb h A a
  | .none, _, x, _, _ => by
    cases x
    exact ⟨[], trivial, fun a m => absurd m (by simp)⟩
  | .bool b, _, x, _, _ => by
    cases x
    exact ⟨[], trivial, fun a m => absurd m (by simp)⟩
  | .int i, _, x, _, _ => by
    cases x
    exact ⟨[], trivial, fun a m => absurd m (by simp)⟩
  | .str s, _, x, _, _ => by
    cases x
    exact ⟨[], trivial, fun a m => absurd m (by simp)⟩
  | .bytes b, _, x, _, _ => by
    cases x
    exact ⟨[], trivial, fun a m => absurd m (by simp)⟩
  | .list ds, _, x, p, z => by
    obtain ⟨a, vs, rfl, ho, hall⟩ := well_list x
    have z2 : WData.weightAll ds ≤ 1048576 := z
    obtain ⟨A, h1, h2⟩ := area_all ds _ hall p fun d hd => Nat.le_trans (weight_mem hd) z2
    have k : ∀ b ∈ A, b ∈ a :: A := fun b hb => List.mem_cons_of_mem _ hb
    refine ⟨a :: A, List.mem_cons_self .., fun b hb => ?_⟩
    rcases List.mem_cons.mp hb with e | m
    · rw [e]
      exact ⟨vs, line_of (by rw [wellAll_len hall]; exact Nat.le_trans (PySem.W.length_le_weightAllW ds) z2), fun u hu => (h1 u hu).mono k, .inl ho⟩
    · exact (h2 b m).mono k
  | .tuple ds, _, x, p, z => by
    obtain ⟨a, vs, rfl, ho, hall⟩ := well_tuple x
    have z2 : WData.weightAll ds ≤ 1048576 := z
    obtain ⟨A, h1, h2⟩ := area_all ds _ hall p fun d hd => Nat.le_trans (weight_mem hd) z2
    have k : ∀ b ∈ A, b ∈ a :: A := fun b hb => List.mem_cons_of_mem _ hb
    refine ⟨a :: A, List.mem_cons_self .., fun b hb => ?_⟩
    rcases List.mem_cons.mp hb with e | m
    · rw [e]
      exact ⟨vs, line_of (by rw [wellAll_len hall]; exact Nat.le_trans (PySem.W.length_le_weightAllW ds) z2), fun u hu => (h1 u hu).mono k, .inr ho⟩
    · exact (h2 b m).mono k
  | .float _, _, _, p, _ => Bool.noConfusion (show false = true from p)
  | .dict _, _, _, p, _ => Bool.noConfusion (show false = true from p)
  | .bytearray _, _, _, p, _ => Bool.noConfusion (show false = true from p)
  | .set _, _, _, p, _ => Bool.noConfusion (show false = true from p)
  | .frozenset _, _, _, p, _ => Bool.noConfusion (show false = true from p)
  | .obj _ _, _, _, p, _ => Bool.noConfusion (show false = true from p)
theorem area_all : ∀ (ds : List WData) (vs : List Value), WellAll P h vs ds → plWs ds = true → (∀ d ∈ ds, d.weight ≤ 1048576) → ∃ A : List Addr, (∀ u ∈ vs, OkU A u) ∧ ∀ a ∈ A, ArgOb h A a
  | [], _, x, _, _ => by
    cases x
    exact ⟨[], fun u m => absurd m (by simp), fun a m => absurd m (by simp)⟩
  | d :: ds, _, x, p, z => by
    obtain ⟨v, vs, rfl, x1, x2⟩ := well_cons x
    have q : plW d = true ∧ plWs ds = true := Bool.and_eq_true_iff.mp p
    obtain ⟨A, a1, a2⟩ := area_one d v x1 q.1 (z d (List.mem_cons_self ..))
    obtain ⟨B, b1, b2⟩ := area_all ds vs x2 q.2 fun e he => z e (List.mem_cons_of_mem _ he)
    have kA : ∀ b ∈ A, b ∈ A ++ B := fun b hb => List.mem_append.mpr (.inl hb)
    have kB : ∀ b ∈ B, b ∈ A ++ B := fun b hb => List.mem_append.mpr (.inr hb)
    refine ⟨A ++ B, fun u hu => ?_, fun b hb => ?_⟩
    · rcases List.mem_cons.mp hu with e | m
      · rw [e]
        exact a1.mono kA
      · exact (b1 u m).mono kB
    · rcases List.mem_append.mp hb with m | m
      · exact (a2 b m).mono kA
      · exact (b2 b m).mono kB
end
end
/-- what is tracked of an argument's object -/
def hoOf (o : Obj) : Option HO := match o.data with
  | .seq vs _ => if (o.cls == Value.type "list") = true then some (.frz o (.lst (vs.toList.map toV))) else some (.frz o (.tup (vs.toList.map toV)))
  | _ => none
def argH (K : PySem.W.Frag) (h : Heap) (A : List Addr) : Hp := fun b => if b ∈ A then (if (K.lookup b).isNone = true then (h.get? b).bind hoOf else none) else none
/-- nothing is tracked but what is known to the object -/
def OnlyF (H : Hp) : Prop := ∀ b, H b = none ∨ ∃ o u, H b = some (.frz o u)
theorem hoOf_lst (vs : List Value) : hoOf { cls := .type "list", data := .seq vs.toArray } = some (.frz { cls := .type "list", data := .seq vs.toArray } (.lst (vs.map toV))) := by
  show (if (Value.type "list" == Value.type "list") = true then some (HO.frz { cls := .type "list", data := .seq vs.toArray } (.lst (vs.toArray.toList.map toV))) else some (HO.frz { cls := .type "list", data := .seq vs.toArray } (.tup (vs.toArray.toList.map toV)))) = _
  rw [if_pos (beq_self_eq_true _)]
theorem hoOf_tup (vs : List Value) : hoOf { cls := .type "tuple", data := .seq vs.toArray } = some (.frz { cls := .type "tuple", data := .seq vs.toArray } (.tup (vs.map toV))) := by
  show (if (Value.type "tuple" == Value.type "list") = true then some (HO.frz { cls := .type "tuple", data := .seq vs.toArray } (.lst (vs.toArray.toList.map toV))) else some (HO.frz { cls := .type "tuple", data := .seq vs.toArray } (.tup (vs.toArray.toList.map toV)))) = _
  rw [if_neg (by decide)]
section
variable {P : Program} {w : World} {K : PySem.W.Frag} {h : Heap} {A : List Addr}
theorem argH_at {b : Addr} {o : Obj} (hb : b ∈ A) (hk : K.lookup b = none) (e : h.get? b = some o) : argH K h A b = hoOf o := by
  unfold argH
  rw [if_pos hb, hk, if_pos (show (none : Option Obj).isNone = true from rfl), e] <;> rfl
theorem of_argH {b : Addr} {u : HO} (q : argH K h A b = some u) : b ∈ A ∧ K.lookup b = none := by
  unfold argH at q
  by_cases hb : b ∈ A
  · rw [if_pos hb] at q
    cases hk : K.lookup b with
    | none => exact ⟨hb, rfl⟩
    | some o =>
      rw [hk, if_neg (by simp)] at q
      cases q
  · rw [if_neg hb] at q
    cases q
/-- what stands tracked -/
theorem argH_is (ar : ∀ a ∈ A, ArgOb h A a) {b : Addr} {u : HO} (q : argH K h A b = some u) : K.lookup b = none ∧ ∃ vs : List Value, vs.length ≤ sizeLine ∧ (∀ u ∈ vs, OkU A u) ∧
    ((h.get? b = some { cls := .type "list", data := .seq vs.toArray } ∧ u = .frz { cls := .type "list", data := .seq vs.toArray } (.lst (vs.map toV))) ∨
     (h.get? b = some { cls := .type "tuple", data := .seq vs.toArray } ∧ u = .frz { cls := .type "tuple", data := .seq vs.toArray } (.tup (vs.map toV)))) := by
  obtain ⟨hb, hk⟩ := of_argH q
  obtain ⟨vs, h1, h2, h3⟩ := ar b hb
  refine ⟨hk, vs, h1, h2, ?_⟩
  rcases h3 with e | e
  · rw [argH_at hb hk e, hoOf_lst] at q
    exact .inl ⟨e, (Option.some.inj q).symm⟩
  · rw [argH_at hb hk e, hoOf_tup] at q
    exact .inr ⟨e, (Option.some.inj q).symm⟩
theorem argH_only (ar : ∀ a ∈ A, ArgOb h A a) : OnlyF (argH K h A) := fun b => by
  cases q : argH K h A b with
  | none => exact .inl rfl
  | some u =>
    obtain ⟨_, vs, _, _, ⟨_, e⟩ | ⟨_, e⟩⟩ := argH_is ar q
    · exact .inr ⟨_, _, by rw [e]⟩
    · exact .inr ⟨_, _, by rw [e]⟩
theorem argH_ok (ar : ∀ a ∈ A, ArgOb h A a) : HOk P w (argH K h A) h := fun b u q => by
  obtain ⟨_, vs, h1, h2, ⟨e, rfl⟩ | ⟨e, rfl⟩⟩ := argH_is ar q
  · exact ⟨e, by rw [List.length_map]; exact h1, vs, _, vals_toV h2, e⟩
  · exact ⟨e, by rw [List.length_map]; exact h1, vs, vals_toV h2, _, e, rfl, _, rfl⟩
theorem seq_inj {c c' : Value} {vs us : List Value} (e : (some { cls := c, data := .seq vs.toArray } : Option Obj) = some { cls := c', data := .seq us.toArray }) : c = c' ∧ vs = us := by
  have e1 := Option.some.inj e
  have e2 : c = c' := congrArg Obj.cls e1
  have e3 : Data.seq vs.toArray = Data.seq us.toArray := congrArg Obj.data e1
  injection e3 with e4
  refine ⟨e2, ?_⟩
  have e5 := congrArg Array.toList e4
  simpa using e5
/-- a list argument -/
theorem argL (KX : K.In h) (ar : ∀ a ∈ A, ArgOb h A a) {a : Addr} {vs : List Value} (ha : a ∈ A) (e : h.get? a = some { cls := .type "list", data := .seq vs.toArray }) : (∀ u ∈ vs, OkU A u) ∧ SqL K (argH K h A) a (vs.map toV) := by
  obtain ⟨us, h1, h2, h3⟩ := ar a ha
  have hu : us = vs := by
    rcases h3 with q | q
    · rw [e] at q
      exact (seq_inj q).2.symm
    · rw [e] at q
      exact absurd (Value.type.inj (seq_inj q).1) (by decide)
  subst hu
  refine ⟨h2, ?_⟩
  cases hk : K.lookup a with
  | none => exact .inl (.inr ⟨_, by rw [argH_at ha hk e, hoOf_lst]⟩)
  | some o =>
    have e2 := KX a o hk
    rw [e] at e2
    obtain rfl := Option.some.inj e2
    exact .inr ⟨_, us.toArray, _, hk, rfl, rfl, rfl, by rw [List.size_toArray]; exact h1, by simpa using vals_toV h2⟩
theorem argT (KX : K.In h) (ar : ∀ a ∈ A, ArgOb h A a) {a : Addr} {vs : List Value} (ha : a ∈ A) (e : h.get? a = some { cls := .type "tuple", data := .seq vs.toArray }) : (∀ u ∈ vs, OkU A u) ∧ SqT K (argH K h A) a (vs.map toV) := by
  obtain ⟨us, h1, h2, h3⟩ := ar a ha
  have hu : us = vs := by
    rcases h3 with q | q
    · rw [e] at q
      exact absurd (Value.type.inj (seq_inj q).1) (by decide)
    · rw [e] at q
      exact (seq_inj q).2.symm
  subst hu
  refine ⟨h2, ?_⟩
  cases hk : K.lookup a with
  | none => exact .inl (.inr ⟨_, by rw [argH_at ha hk e, hoOf_tup]⟩)
  | some o =>
    have e2 := KX a o hk
    rw [e] at e2
    obtain rfl := Option.some.inj e2
    exact .inr ⟨_, us.toArray, _, hk, rfl, rfl, by rw [List.size_toArray]; exact h1, by simpa using vals_toV h2⟩
mutual
theorem dw_one {Pm : Params} (KX : K.In h) (ar : ∀ a ∈ A, ArgOb h A a) : ∀ (d : WData) (v : Value), Well Pm h v d → plW d = true → OkU A v → Dw K (argH K h A) (toV v) d
  | .none, _, x, _, _ => by
    cases x
    exact .non
  | .bool b, _, x, _, _ => by
    cases x
    exact .bl b
  | .int i, _, x, _, _ => by
    cases x
    exact .int i
  | .str s, _, x, _, _ => by
    cases x
    exact .str s
  | .bytes b, _, x, _, _ => by
    cases x
    have z := Dw.byt (K := K) (H := argH K h A) b.toArray
    exact z
  | .list ds, _, x, p, hu => by
    obtain ⟨a, vs, rfl, ho, hall⟩ := well_list x
    obtain ⟨h2, hs⟩ := argL KX ar hu ho
    exact .lst hs (dw_all KX ar ds _ hall p h2)
  | .tuple ds, _, x, p, hu => by
    obtain ⟨a, vs, rfl, ho, hall⟩ := well_tuple x
    obtain ⟨h2, hs⟩ := argT KX ar hu ho
    exact .tup hs (dw_all KX ar ds _ hall p h2)
  | .float _, _, _, p, _ => Bool.noConfusion (show false = true from p)
  | .dict _, _, _, p, _ => Bool.noConfusion (show false = true from p)
  | .bytearray _, _, _, p, _ => Bool.noConfusion (show false = true from p)
  | .set _, _, _, p, _ => Bool.noConfusion (show false = true from p)
  | .frozenset _, _, _, p, _ => Bool.noConfusion (show false = true from p)
  | .obj _ _, _, _, p, _ => Bool.noConfusion (show false = true from p)
theorem dw_all {Pm : Params} (KX : K.In h) (ar : ∀ a ∈ A, ArgOb h A a) : ∀ (ds : List WData) (vs : List Value), WellAll Pm h vs ds → plWs ds = true → (∀ u ∈ vs, OkU A u) → DwAll K (argH K h A) (vs.map toV) ds
  | [], _, x, _, _ => by
    cases x
    exact .nil
  | d :: ds, _, x, p, hu => by
    obtain ⟨v, vs, rfl, x1, x2⟩ := well_cons x
    have q : plW d = true ∧ plWs ds = true := Bool.and_eq_true_iff.mp p
    exact .cons (dw_one KX ar d v x1 q.1 (hu _ (List.mem_cons_self ..))) (dw_all KX ar ds vs x2 q.2 fun u m => hu u (List.mem_cons_of_mem _ m))
end
end
/-! ### the call -/
theorem spec_call {P : Program} {w : World} {K : PySem.W.Frag} {mg mb : Str → Option Value} {CX : CXT} {k : Nat} {fa : Addr} {fd : FuncData} {ps : List Str} {sp : Sp} {s₁ : Shared} {vals : List Value} {ds : List WData} {R : PySem.W.WRecords} {cl : Str → Option Addr} {d0 : WData}
    (KX : K.In s₁.heap) (hns : s₁.heap.Ns mainGlobals mg) (hb : s₁.heap.Ns builtinsNs mb) (hbb : ∀ x : Str, x ≠ "__name__" → mb x = bootBuiltins x) (hlim : s₁.heap.NoLimit) (hg : s₁.gens = #[])
    (hwl : WellAll w.params s₁.heap vals ds) (hpl : plWs ds = true) (hwt : ∀ d ∈ ds, d.weight ≤ 1048576) (hr : Room k callerA)
    (F : ∀ base : Heap, K.In base → base.Ns mainGlobals mg → FnOk P w K mg base CX k fa fd ps sp) (hbind : ∀ (s : Shared) (us : List Value), us.length = ps.length → BindsTo s fd ⟨us, []⟩ (ps.zip us)) (hlen : ds.length = ps.length)
    (hsp : ∀ (H : Hp) (xs : List V), OnlyF H → DwAll K H xs ds → sp xs H (fun v H' => Dw K H' v d0) fun _ _ _ => False)
    (hCX : ∀ H e s', CX [] H s₁ (fun _ _ _ => False) e s' → False) :
    codeAny (model P w) callerA (.call (.ref fa) ⟨vals, []⟩) (fun r s' => ∃ u as, r = .ok (.ret u) ∧ ReadsW R cl s'.heap u d0 as ∧ OldK s₁.heap s'.heap ∧ s'.os = s₁.os ∧ AllBare s'.gens) s₁ := by
  obtain ⟨A, ho, ar⟩ := area_all ds vals hwl hpl hwt
  have hO : OnlyF (argH K s₁.heap A) := argH_only ar
  have hok : HOk P w (argH K s₁.heap A) s₁.heap := argH_ok ar
  have hS := dw_all KX ar ds vals hwl hpl ho
  have hV := vals_toV ho
  have hK : ∀ b u, argH K s₁.heap A b = some u → K.lookup b = none := fun b u q => (argH_is ar q).1
  have noA : ∀ {b : Addr} {o : Obj} {es : Array DictEntry} {ep : Nat}, s₁.heap.get? b = some o → o.data = .dict es ep → argH K s₁.heap A b = none := fun {b o es ep} e d => by
    cases q : argH K s₁.heap A b with
    | none => rfl
    | some u =>
      obtain ⟨_, vs, _, _, ⟨e2, _⟩ | ⟨e2, _⟩⟩ := argH_is ar q
      · rw [e2] at e
        cases e
        have d' : Data.seq vs.toArray _ = Data.dict es ep := d
        cases d'
      · rw [e2] at e
        cases e
        have d' : Data.seq vs.toArray _ = Data.dict es ep := d
        cases d'
  generalize argH K s₁.heap A = H at hO hok hS hK noA
  have base_of : ∀ {b : Addr} {o : Obj}, s₁.heap.get? b = some o → H b = none → (hidT s₁.heap H).get? b = some o := fun e n => hidT_get e n
  have nsK : ∀ {b : Addr} {m : Str → Option Value}, s₁.heap.Ns b m → (hidT s₁.heap H).Ns b m := fun {b m} ⟨o, es, ep, e, d, r⟩ => ⟨o, es, ep, base_of e (noA e d), d, r⟩
  have nK : ∀ b o, K.lookup b = some o → H b = none := fun b o e => by
    cases q : H b with
    | none => rfl
    | some u =>
      rw [hK b u q] at e
      cases e
  have hKb : K.In (hidT s₁.heap H) := fun b o e => base_of (KX b o e) (nK b o e)
  have hM : Mod K mg (hidT s₁.heap H) := ⟨hKb, nsK hns, ⟨mb, nsK hb, hbb⟩, let ⟨mc, h1, h2⟩ := hlim; ⟨mc, nsK h1, h2⟩⟩
  have e0 : Env0 P w K mg (hidT s₁.heap H) callerA [] s₁ H := ⟨rfl, hM, fun b o e => of_hidT e, Nat.le_of_eq (hidT_size _ _), trivial, fun b hb => absurd (show b ∈ ([] : List Addr) from hb) (by simp), hok, .of_eq hg⟩
  have hl : vals.length = ps.length := by rw [wellAll_len hwl]; exact hlen
  refine codeAny_mono ((F _ hKb (nsK hns)).run callerA [] s₁ H ⟨vals, []⟩ vals (vals.map toV) _ _ hr e0 (hbind s₁ vals hl) hV (hsp H _ hO hS)) fun r s' x => ?_
  cases r with
  | error e => exact (hCX H e s' x).elim
  | ok fl =>
    cases fl with
    | next => exact False.elim x
    | brk => exact False.elim x
    | cont => exact False.elim x
    | ret u =>
      obtain ⟨v, H', os, bare, un, hok', r', q⟩ := x
      have kept : ∀ b o, s₁.heap.get? b = some o → s'.heap.get? b = some o := fun b o e => by
        cases q2 : H b with
        | none => exact un.keep b o e q2 (by intro z; exact absurd (show b ∈ ([] : List Addr) from z) (by simp)) (by simp)
        | some u2 =>
          rcases hO b with z | ⟨ob, u3, z⟩
          · rw [q2] at z
            cases z
          · have z2 := un.frzs b ob _ z
            obtain ⟨e1, _⟩ := hok b _ z
            obtain ⟨e2, _⟩ := hok' b _ z2
            rw [e] at e1
            cases e1
            exact e2
      have KX' : K.In s'.heap := fun b o e => kept b o (KX b o e)
      obtain ⟨as, hrd⟩ := Dw.reads (R := R) (cl := cl) hok' KX' d0 v u q r'
      exact ⟨u, as, rfl, hrd, OldK.of_keep kept, os, bare⟩
/-! ### the row -/
theorem layable_weight {ds : List WData} (h : WData.layableAll ds = true) : ∀ d ∈ ds, d.weight ≤ 1048576 := fun d hd =>
  (PySem.W.layableW_iff.mp (List.all_eq_true.mp h d hd)).2.2
theorem encAll_len : ∀ (cs : List Codec) (a : Codec.denoteAll cs), (Codec.encAll cs a).length = cs.length
  | [], _ => rfl
  | c :: cs, a => by
    show (Codec.encAll cs a.2).length + 1 = cs.length + 1
    rw [encAll_len cs a.2]
/-- the goal that k_headS leaves (case hc), from the promise of the row's def: whatever the arguments that the codecs let and the row asks for, the def gives what stands for enc (f ..) -/
theorem walk_spec {r : OpenSpec} {k : Nat} {q : Program} {loose : List Str} {XP : (Str → Option Value) → Heap → Prop} {YP : World → Heap → Prop} {d : DefRec} {K : Params → PySem.W.Frag} {CX : World → CXT} {ps : List Str} {sp : World → Sp}
    (hwell : r.wellSaid = true) (hdf : d.params.defaults = []) (hlen : r.args.length = ps.length) (hr : Room k callerA)
    (hY : ∀ (w : World) (h : Heap), YP w h → (K w.params).In h)
    (F : ∀ (w : World) (mg : Str → Option Value) (fa : Addr) (h : Heap), YP w h → (K w.params).In h → h.Ns mainGlobals mg → mg d.name = some (.ref fa) →
      ∃ fd : FuncData, (∀ (s : Shared) (us : List Value), us.length = ps.length → BindsTo s fd ⟨us, []⟩ (ps.zip us)) ∧
        ∀ base : Heap, (K w.params).In base → base.Ns mainGlobals mg → FnOk r.prog w (K w.params) mg base (CX w) k fa fd ps (sp w))
    (hsp : ∀ (w : World) (H : Hp) (xs : List V) (a : Codec.denoteAll r.args), OnlyF H → Codec.withinAll r.args a = true → Codec.app r.args r.asked a = true → DwAll (K w.params) H xs (Codec.encAll r.args a) →
      sp w xs H (fun v H' => Dw (K w.params) H' v (r.ret.enc (Codec.app r.args r.f a))) fun _ _ _ => False)
    (hCX : ∀ (w : World) (H : Hp) (s : Shared) (e : Value) (s' : Shared), CX w [] H s (fun _ _ _ => False) e s' → False) :
    PySem.W.WalkOS q loose XP YP r d [] (fun f vs => PySem.call f vs) := by
  intro w s_0 s₁ mg mb G Y fa o pm cd doc dV kV ho hd hcd hD hmg hg args vals as hpre hlay hrd hwl hlo
  obtain ⟨a, e1, e2⟩ := PySem.W.os_pre_some hpre
  obtain ⟨e3, hwi⟩ := Codec.encAll_of_decAll r.args args a e1
  subst e3
  have KX := hY w _ Y
  obtain ⟨fd, hb, hF⟩ := F w mg fa _ Y KX G.T.g hmg
  refine PySem.W.enter_call (codeAny_mono (spec_call (R := []) (cl := classAt s_0.heap) (d0 := r.ret.enc (Codec.app r.args r.f a)) KX G.T.g G.T.b G.T.builtins G.T.nolimit hg hwl (pl_encAll _ _) (layable_weight hlay) hr hF hb (by rw [encAll_len]; exact hlen)
    (fun H xs hO hS => hsp w H xs a hO hwi e2 hS) fun H e s' => hCX w H s₁ e s') fun r' s' hq => ?_)
  obtain ⟨u, as', rfl, h1, h2, h3, h4⟩ := hq
  exact ⟨.inl ⟨u, _, as', rfl, fun _ => rfl, h1, (OpenSpec.post_iff hwell hwi _ _).mpr rfl, fun z => Bool.noConfusion (show false = true from z)⟩, h2, h3, h4⟩
/-- the same where the promise hangs on the written part alone -/
theorem walk_specK {r : OpenSpec} {k : Nat} {q : Program} {loose : List Str} {XP : (Str → Option Value) → Heap → Prop} {YP : World → Heap → Prop} {d : DefRec} {K : Params → PySem.W.Frag} {CX : CXT} {ps : List Str} {sp : PySem.W.Frag → Sp}
    (hwell : r.wellSaid = true) (hdf : d.params.defaults = []) (hlen : r.args.length = ps.length) (hr : Room k callerA)
    (hY : ∀ (w : World) (h : Heap), YP w h → (K w.params).In h)
    (F : ∀ (w : World) (mg : Str → Option Value) (fa : Addr) (h : Heap), YP w h → (K w.params).In h → h.Ns mainGlobals mg → mg d.name = some (.ref fa) →
      ∃ fd : FuncData, (∀ (s : Shared) (us : List Value), us.length = ps.length → BindsTo s fd ⟨us, []⟩ (ps.zip us)) ∧
        ∀ base : Heap, (K w.params).In base → base.Ns mainGlobals mg → FnOk r.prog w (K w.params) mg base CX k fa fd ps (sp (K w.params)))
    (hsp : ∀ (K : PySem.W.Frag) (H : Hp) (xs : List V) (a : Codec.denoteAll r.args), OnlyF H → Codec.withinAll r.args a = true → Codec.app r.args r.asked a = true → DwAll K H xs (Codec.encAll r.args a) →
      sp K xs H (fun v H' => Dw K H' v (r.ret.enc (Codec.app r.args r.f a))) fun _ _ _ => False)
    (hCX : ∀ (H : Hp) (s : Shared) (e : Value) (s' : Shared), CX [] H s (fun _ _ _ => False) e s' → False) :
    PySem.W.WalkOS q loose XP YP r d [] (fun f vs => PySem.call f vs) :=
  walk_spec (K := K) (CX := fun _ => CX) (sp := fun w => sp (K w.params)) hwell hdf hlen hr hY F (fun w H xs a h1 h2 h3 h4 => hsp (K w.params) H xs a h1 h2 h3 h4) fun _ H s e s' => hCX H s e s'
end L2
-- rests on (row put in by the clerk, for the bench that shows a file only what it spells): KE.SpHead KE.OsShapes
end

namespace Ck
open Kv204
/-! ### fractions -/
def Eqf (p q : At) : Prop := p.1 * q.2 = q.1 * p.2
theorem Eqf.refl (p : At) : Eqf p p := rfl
theorem Eqf.symm {p q : At} (h : Eqf p q) : Eqf q p := Eq.symm h
theorem Eqf.trans {p q r : At} (hq : 0 < q.2) (h : Eqf p q) (k : Eqf q r) : Eqf p r := by
  unfold Eqf at *
  apply Nat.eq_of_mul_eq_mul_right hq
  grind
theorem lowest_eq {p : At} (h : 0 < p.2) : lowest p = (p.1 / Nat.gcd p.1 p.2, p.2 / Nat.gcd p.1 p.2) := by
  unfold lowest
  split
  · rename_i e
    rw [e, Nat.gcd_zero_left, Nat.zero_div, Nat.div_self h]
  · rfl
theorem gcd_pos {p : At} (h : 0 < p.2) : 0 < Nat.gcd p.1 p.2 := Nat.gcd_pos_of_pos_right _ h
theorem lowest_pos {p : At} (h : 0 < p.2) : 0 < (lowest p).2 := by
  rw [lowest_eq h]
  exact Nat.div_pos (Nat.le_of_dvd h (Nat.gcd_dvd_right _ _)) (gcd_pos h)
theorem lowest_eqf {p : At} (h : 0 < p.2) : Eqf (lowest p) p := by
  rw [lowest_eq h]
  show p.1 / _ * p.2 = p.1 * (p.2 / _)
  have h1 := Nat.div_mul_cancel (Nat.gcd_dvd_left p.1 p.2)
  have h2 := Nat.div_mul_cancel (Nat.gcd_dvd_right p.1 p.2)
  apply Nat.eq_of_mul_eq_mul_right (gcd_pos h)
  calc p.1 / Nat.gcd p.1 p.2 * p.2 * Nat.gcd p.1 p.2 = (p.1 / Nat.gcd p.1 p.2 * Nat.gcd p.1 p.2) * p.2 := by grind
    _ = p.1 * (p.2 / Nat.gcd p.1 p.2 * Nat.gcd p.1 p.2) := by rw [h1, h2]
    _ = _ := by grind
theorem lowest_cop {p : At} (h : 0 < p.2) : Nat.Coprime (lowest p).1 (lowest p).2 := by
  rw [lowest_eq h]
  exact Nat.coprime_div_gcd_div_gcd (gcd_pos h)
theorem cop_eq {p q : At} (hp : Nat.Coprime p.1 p.2) (hq : Nat.Coprime q.1 q.2) (p0 : 0 < p.2) (h : Eqf p q) : p = q := by
  unfold Eqf at h
  have d1 : p.2 ∣ q.2 := by
    apply Nat.Coprime.dvd_of_dvd_mul_left hp.symm
    exact ⟨q.1, by rw [h]; exact Nat.mul_comm _ _⟩
  have d2 : q.2 ∣ p.2 := by
    apply Nat.Coprime.dvd_of_dvd_mul_left hq.symm
    exact ⟨p.1, by rw [← h]; exact Nat.mul_comm _ _⟩
  have e2 : p.2 = q.2 := Nat.dvd_antisymm d1 d2
  have e1 : p.1 = q.1 := by
    rw [← e2] at h
    exact Nat.eq_of_mul_eq_mul_right p0 h
  exact Prod.ext e1 e2
theorem lowest_congr {p q : At} (p0 : 0 < p.2) (q0 : 0 < q.2) (h : Eqf p q) : lowest p = lowest q := by
  apply cop_eq (lowest_cop p0) (lowest_cop q0) (lowest_pos p0)
  exact ((lowest_eqf p0).trans p0 h).trans q0 (lowest_eqf q0).symm
theorem lowest_of_cop {p : At} (p0 : 0 < p.2) (h : Nat.gcd p.1 p.2 = 1) : lowest p = p := by
  rw [lowest_eq p0, h, Nat.div_one, Nat.div_one]
theorem lowest_idem {p : At} (p0 : 0 < p.2) : lowest (lowest p) = lowest p := lowest_of_cop (lowest_pos p0) (lowest_cop p0)
theorem eqf_of_lowest {p q : At} (p0 : 0 < p.2) (q0 : 0 < q.2) (h : lowest p = lowest q) : Eqf p q := by
  have a := (lowest_eqf p0).symm
  rw [h] at a
  exact a.trans (lowest_pos q0) (lowest_eqf q0)
theorem isAt_iff {q : At} : isAt q = true ↔ 1 ≤ q.2 ∧ Nat.gcd q.1 q.2 = 1 := by
  unfold isAt
  rw [Bool.and_eq_true, decide_eq_true_iff, beq_iff_eq]
  constructor
  · rintro ⟨h, e⟩
    refine ⟨h, ?_⟩
    have := lowest_cop (p := q) h
    rw [e] at this
    exact this
  · rintro ⟨h, e⟩
    exact ⟨h, lowest_of_cop h e⟩
theorem isAt_pos {q : At} (h : isAt q = true) : 0 < q.2 := (isAt_iff.mp h).1
theorem isAt_low {q : At} (h : isAt q = true) : lowest q = q := lowest_of_cop (isAt_pos h) (isAt_iff.mp h).2
theorem lowest_isAt {q : At} (h : 0 < q.2) : isAt (lowest q) = true := isAt_iff.mpr ⟨lowest_pos h, lowest_cop h⟩
theorem isAt_eq {p q : At} (hp : isAt p = true) (hq : isAt q = true) (h : Eqf p q) : p = q := cop_eq (isAt_iff.mp hp).2 (isAt_iff.mp hq).2 (isAt_pos hp) h
theorem lowest_le1 {p : At} (h : 0 < p.2) : (lowest p).1 ≤ p.1 := by rw [lowest_eq h]; exact Nat.div_le_self _ _
theorem lowest_le2 {p : At} (h : 0 < p.2) : (lowest p).2 ≤ p.2 := by rw [lowest_eq h]; exact Nat.div_le_self _ _
/-! ### order -/
def Le (p q : At) : Prop := p.1 * q.2 ≤ q.1 * p.2
instance (p q : At) : Decidable (Le p q) := Nat.decLe _ _
theorem le_iff {p q : At} : le p q = true ↔ Le p q := by unfold le Le; rw [decide_eq_true_iff]
theorem le_dec (p q : At) : le p q = decide (Le p q) := rfl
theorem Le.refl (p : At) : Le p p := Nat.le_refl _
theorem Le.trans {p q r : At} (q0 : 0 < q.2) (h : Le p q) (k : Le q r) : Le p r := by
  unfold Le at *
  apply Nat.le_of_mul_le_mul_right _ q0
  calc p.1 * r.2 * q.2 = p.1 * q.2 * r.2 := by grind
    _ ≤ q.1 * p.2 * r.2 := Nat.mul_le_mul_right _ h
    _ = q.1 * r.2 * p.2 := by grind
    _ ≤ r.1 * q.2 * p.2 := Nat.mul_le_mul_right _ k
    _ = _ := by grind
theorem Le.of_eqf {p q : At} (h : Eqf p q) : Le p q := Nat.le_of_eq h
theorem Le.anti {p q : At} (h : Le p q) (k : Le q p) : Eqf p q := Nat.le_antisymm h k
theorem Le.total (p q : At) : Le p q ∨ Le q p := Nat.le_total _ _
theorem Le.congr {p q p' q' : At} (p0 : 0 < p.2) (q0 : 0 < q.2) (hp : Eqf p p') (hq : Eqf q q') (h : Le p q) : Le p' q' :=
  Le.trans p0 (Le.of_eqf hp.symm) (Le.trans q0 h (Le.of_eqf hq))
theorem le_congr {p q p' q' : At} (p0 : 0 < p.2) (q0 : 0 < q.2) (p0' : 0 < p'.2) (q0' : 0 < q'.2) (hp : Eqf p p') (hq : Eqf q q') : le p q = le p' q' := by
  rw [le_dec, le_dec]
  exact decide_eq_decide.mpr ⟨Le.congr p0 q0 hp hq, Le.congr p0' q0' hp.symm hq.symm⟩
theorem le_lowest {p q : At} (p0 : 0 < p.2) (q0 : 0 < q.2) : le (lowest p) (lowest q) = le p q :=
  le_congr (lowest_pos p0) (lowest_pos q0) p0 q0 (lowest_eqf p0) (lowest_eqf q0)
/-! ### plus, minus -/
theorem plus_pos {p q : At} (p0 : 0 < p.2) (q0 : 0 < q.2) : 0 < (plus p q).2 := Nat.mul_pos p0 q0
theorem minus_pos {p q : At} (p0 : 0 < p.2) (q0 : 0 < q.2) : 0 < (minus p q).2 := Nat.mul_pos p0 q0
theorem plus_congr {p q p' q' : At} (hp : Eqf p p') (hq : Eqf q q') : Eqf (plus p q) (plus p' q') := by
  unfold Eqf plus at *
  show (p.1 * q.2 + q.1 * p.2) * (p'.2 * q'.2) = (p'.1 * q'.2 + q'.1 * p'.2) * (p.2 * q.2)
  grind
theorem minus_congr {p q p' q' : At} (hp : Eqf p p') (hq : Eqf q q') : Eqf (minus p q) (minus p' q') := by
  unfold Eqf minus at *
  show (p.1 * q.2 - q.1 * p.2) * (p'.2 * q'.2) = (p'.1 * q'.2 - q'.1 * p'.2) * (p.2 * q.2)
  rw [Nat.sub_mul, Nat.sub_mul]
  have e1 : p.1 * q.2 * (p'.2 * q'.2) = p'.1 * q'.2 * (p.2 * q.2) := by grind
  have e2 : q.1 * p.2 * (p'.2 * q'.2) = q'.1 * p'.2 * (p.2 * q.2) := by grind
  rw [e1, e2]
theorem plus_minus {p q : At} (h : Le q p) : Eqf (plus q (minus p q)) p := by
  unfold Le at h
  show (q.1 * (p.2 * q.2) + (p.1 * q.2 - q.1 * p.2) * q.2) * p.2 = p.1 * (q.2 * (p.2 * q.2))
  obtain ⟨d, hd⟩ := Nat.exists_eq_add_of_le h
  rw [hd, Nat.add_sub_cancel_left]
  grind
theorem plus_le_right {p q r : At} (h : Le q r) : Le (plus p q) (plus p r) := by
  unfold Le at *
  show (p.1 * q.2 + q.1 * p.2) * (p.2 * r.2) ≤ (p.1 * r.2 + r.1 * p.2) * (p.2 * q.2)
  have e1 : (p.1 * q.2 + q.1 * p.2) * (p.2 * r.2) = p.1 * q.2 * p.2 * r.2 + q.1 * r.2 * (p.2 * p.2) := by grind
  have e2 : (p.1 * r.2 + r.1 * p.2) * (p.2 * q.2) = p.1 * q.2 * p.2 * r.2 + r.1 * q.2 * (p.2 * p.2) := by grind
  rw [e1, e2]
  exact Nat.add_le_add_left (Nat.mul_le_mul_right _ h) _
theorem le_plus (p q : At) : Le p (plus p q) := by
  show p.1 * (p.2 * q.2) ≤ (p.1 * q.2 + q.1 * p.2) * p.2
  have e : (p.1 * q.2 + q.1 * p.2) * p.2 = p.1 * (p.2 * q.2) + q.1 * p.2 * p.2 := by grind
  rw [e]
  exact Nat.le_add_right _ _
/-! ### marks -/
theorem before_succ (w : Worth) (i : Nat) : w.before (i + 1) = w.before i + w.getD i 0 := by
  unfold Worth.before
  induction w generalizing i with
  | nil => simp
  | cons a w ih =>
    cases i with
    | zero => simp
    | succ i => 
      have := ih i
      simp only [List.take_succ_cons, List.sum_cons, List.getD_cons_succ] at *
      omega
theorem before_mono (w : Worth) {i j : Nat} (h : i ≤ j) : w.before i ≤ w.before j := by
  obtain ⟨d, rfl⟩ := Nat.exists_eq_add_of_le h
  induction d with
  | zero => exact Nat.le_refl _
  | succ d ih =>
    have := before_succ w (i + d)
    have := ih (by omega)
    show w.before i ≤ w.before (i + d + 1)
    omega
theorem before_all (w : Worth) {i : Nat} (h : w.length ≤ i) : w.before i = w.sum := by
  unfold Worth.before
  rw [List.take_of_length_le h]
theorem mark_pos {w : Worth} {q : At} (h : 0 < q.2) : 0 < (w.mark q).2 := h
theorem mark_lt {w : Worth} {q : At} (h : 0 < q.2) : (w.mark q).1 ≤ w.before (q.1 / q.2 + 1) * q.2 := by
  show w.before (q.1 / q.2) * q.2 + w.getD (q.1 / q.2) 0 * (q.1 % q.2) ≤ _
  rw [before_succ, Nat.add_mul]
  exact Nat.add_le_add_left (Nat.mul_le_mul_left _ (Nat.le_of_lt (Nat.mod_lt _ h))) _
theorem mark_ge {w : Worth} {q : At} : w.before (q.1 / q.2) * q.2 ≤ (w.mark q).1 := Nat.le_add_right _ _
theorem mark_mono {w : Worth} {q r : At} (q0 : 0 < q.2) (r0 : 0 < r.2) (h : Le q r) : Le (w.mark q) (w.mark r) := by
  obtain ⟨o, u⟩ := q
  obtain ⟨o', u'⟩ := r
  have q0 : 0 < u := q0
  have r0 : 0 < u' := r0
  have h : o * u' ≤ o' * u := h
  have eo := Nat.div_add_mod o u
  have eo' := Nat.div_add_mod o' u'
  have hcd : o / u ≤ o' / u' := by
    rw [Nat.le_div_iff_mul_le r0]
    have h1 : o / u * u ≤ o := Nat.div_mul_le_self o u
    apply Nat.le_of_mul_le_mul_right _ q0
    calc o / u * u' * u = o / u * u * u' := by grind
      _ ≤ o * u' := Nat.mul_le_mul_right _ h1
      _ ≤ o' * u := h
  by_cases e : o / u = o' / u'
  · show (w.before (o / u) * u + w.getD (o / u) 0 * (o % u)) * u' ≤ (w.before (o' / u') * u' + w.getD (o' / u') 0 * (o' % u')) * u
    rw [← e]
    have hr : o % u * u' ≤ o' % u' * u := by
      rw [← e] at eo'
      have h2 : (u * (o / u) + o % u) * u' ≤ (u' * (o / u) + o' % u') * u := by rw [eo, eo']; exact h
      rw [Nat.add_mul, Nat.add_mul] at h2
      have e3 : u * (o / u) * u' = u' * (o / u) * u := by grind
      omega
    have e1 : (w.before (o / u) * u + w.getD (o / u) 0 * (o % u)) * u' = w.before (o / u) * u * u' + w.getD (o / u) 0 * (o % u * u') := by grind
    have e2 : (w.before (o / u) * u' + w.getD (o / u) 0 * (o' % u')) * u = w.before (o / u) * u * u' + w.getD (o / u) 0 * (o' % u' * u) := by grind
    rw [e1, e2]
    exact Nat.add_le_add_left (Nat.mul_le_mul_left _ hr) _
  · have hlt : o / u + 1 ≤ o' / u' := by omega
    have h1 := mark_lt (w := w) (q := (o, u)) q0
    have h2 := mark_ge (w := w) (q := (o', u'))
    have h3 := before_mono w hlt
    show (w.mark (o, u)).1 * u' ≤ (w.mark (o', u')).1 * u
    have h1 : (w.mark (o, u)).1 ≤ w.before (o / u + 1) * u := h1
    have h2 : w.before (o' / u') * u' ≤ (w.mark (o', u')).1 := h2
    calc (w.mark (o, u)).1 * u' ≤ w.before (o / u + 1) * u * u' := Nat.mul_le_mul_right _ h1
      _ = w.before (o / u + 1) * (u * u') := by grind
      _ ≤ w.before (o' / u') * (u * u') := Nat.mul_le_mul_right _ h3
      _ = w.before (o' / u') * u' * u := by grind
      _ ≤ _ := Nat.mul_le_mul_right _ h2
/-- a place within the cake -/
def In (n : Nat) (q : At) : Prop := isAt q = true ∧ q.1 ≤ n * q.2
theorem mark_total {w : Worth} {q : At} (q0 : 0 < q.2) (h : q.1 ≤ w.length * q.2) : Le (w.mark q) (w.sum, 1) := by
  have h1 : Le q (w.length, 1) := by show q.1 * 1 ≤ w.length * q.2; omega
  have h2 := mark_mono (w := w) q0 Nat.one_pos h1
  have e : w.mark (w.length, 1) = (w.sum, 1) := by
    show (w.before (w.length / 1) * 1 + w.getD (w.length / 1) 0 * (w.length % 1), 1) = _
    rw [Nat.div_one, Nat.mod_one, before_all w (Nat.le_refl _)]
    simp
  rw [e] at h2
  exact h2
/-- what Python's mark tells -/
theorem mark_end {w : Worth} {q : At} (q0 : 0 < q.2) (h : q.1 ≤ w.length * q.2) (e : q.1 / q.2 = w.length) : lowest (w.mark q) = (w.before (q.1 / q.2), 1) := by
  have h1 := Nat.div_add_mod q.1 q.2
  rw [e] at h1
  have h2 : q.1 % q.2 = 0 := by
    have : q.2 * w.length = w.length * q.2 := Nat.mul_comm _ _
    omega
  have e2 : w.mark q = (w.before (q.1 / q.2) * q.2, q.2) := by
    show (w.before (q.1 / q.2) * q.2 + w.getD (q.1 / q.2) 0 * (q.1 % q.2), q.2) = _
    rw [h2]; simp
  rw [e2]
  have e3 : lowest (w.before (q.1 / q.2) * q.2, q.2) = lowest (w.before (q.1 / q.2), 1) := lowest_congr q0 Nat.one_pos (by show _ * _ = _ * _; grind)
  rw [e3]
  exact lowest_of_cop Nat.one_pos (Nat.gcd_one_right _)
end Ck

namespace Ck
open Kv204
/-! ### the first place of a mark -/
/-- cell i holds the mark v -/
structure Cell (w : Worth) (v : At) (i : Nat) : Prop where
  lt : i < w.length
  hi : v.1 ≤ w.before (i + 1) * v.2
  lo : w.before i * v.2 < v.1
def idx (w : Worth) (v : At) : Nat := (List.range w.length).findIdx fun k => decide (v.1 ≤ w.before (k + 1) * v.2)
theorem idx_cell {w : Worth} {v : At} (v1 : 0 < v.1) (h : Le v (w.sum, 1)) : Cell w v (idx w v) := by
  have h : v.1 * 1 ≤ w.sum * v.2 := h
  have hw : 0 < w.length := by
    cases w with
    | nil => simp at h; omega
    | cons a w => simp
  have ex : ∃ x ∈ List.range w.length, decide (v.1 ≤ w.before (x + 1) * v.2) = true := by
    refine ⟨w.length - 1, by simp; omega, decide_eq_true ?_⟩
    rw [show w.length - 1 + 1 = w.length by omega, before_all w (Nat.le_refl _)]
    omega
  have hl := List.findIdx_lt_length_of_exists ex
  have hl' : idx w v < w.length := by simpa [idx] using hl
  have hg := List.findIdx_getElem (w := hl)
  have hg' : v.1 ≤ w.before (idx w v + 1) * v.2 := by
    have := of_decide_eq_true hg
    simpa [idx] using this
  refine ⟨hl', hg', ?_⟩
  by_cases e : idx w v = 0
  · rw [e]
    show (List.take 0 w).sum * v.2 < v.1
    simp; exact v1
  · have hn := List.not_of_lt_findIdx (p := fun k => decide (v.1 ≤ w.before (k + 1) * v.2)) (xs := List.range w.length) (i := idx w v - 1) (by show idx w v - 1 < idx w v; omega)
    simp only [List.getElem_range] at hn
    rw [show idx w v - 1 + 1 = idx w v by omega] at hn
    simpa using hn
theorem Cell.uniq {w : Worth} {v : At} {i j : Nat} (a : Cell w v i) (b : Cell w v j) : i = j := by
  rcases Nat.lt_trichotomy i j with h | h | h
  · have h1 := before_mono w (show i + 1 ≤ j from h)
    have h2 := Nat.mul_le_mul_right v.2 h1
    have := a.hi
    have := b.lo
    omega
  · exact h
  · have h1 := before_mono w (show j + 1 ≤ i from h)
    have h2 := Nat.mul_le_mul_right v.2 h1
    have := b.hi
    have := a.lo
    omega
theorem Cell.pos {w : Worth} {v : At} {i : Nat} (a : Cell w v i) : 0 < w.getD i 0 := by
  have h1 := a.hi
  have h2 := a.lo
  rw [before_succ, Nat.add_mul] at h1
  apply Nat.pos_of_ne_zero
  intro e
  rw [e] at h1
  omega
theorem Cell.v1 {w : Worth} {v : At} {i : Nat} (a : Cell w v i) : 0 < v.1 := Nat.lt_of_le_of_lt (Nat.zero_le _) a.lo
theorem Cell.le {w : Worth} {v : At} {i : Nat} (a : Cell w v i) : Le v (w.sum, 1) := by
  show v.1 * 1 ≤ w.sum * v.2
  have h := before_mono w (show i + 1 ≤ w.length from a.lt)
  rw [before_all w (Nat.le_refl _)] at h
  have := Nat.mul_le_mul_right v.2 h
  have := a.hi
  omega
def raw (w : Worth) (v : At) (i : Nat) : At := (i * (v.2 * w.getD i 0) + (v.1 - w.before i * v.2), v.2 * w.getD i 0)
theorem place_eq {w : Worth} {v : At} {i : Nat} (a : Cell w v i) : w.place v = lowest (raw w v i) := by
  have e : idx w v = i := (idx_cell a.v1 a.le).uniq a
  unfold Worth.place
  rw [if_neg (by have := a.v1; omega)]
  show lowest (raw w v (idx w v)) = _
  rw [e]
theorem raw_pos {w : Worth} {v : At} {i : Nat} (v2 : 0 < v.2) (a : Cell w v i) : 0 < (raw w v i).2 := Nat.mul_pos v2 a.pos
theorem Cell.congr {w : Worth} {v v' : At} {i : Nat} (v2 : 0 < v.2) (v2' : 0 < v'.2) (h : Eqf v v') (a : Cell w v i) : Cell w v' i := by
  unfold Eqf at h
  refine ⟨a.lt, ?_, ?_⟩
  · apply Nat.le_of_mul_le_mul_right _ v2
    calc v'.1 * v.2 = v.1 * v'.2 := h.symm
      _ ≤ w.before (i + 1) * v.2 * v'.2 := Nat.mul_le_mul_right _ a.hi
      _ = _ := by grind
  · apply Nat.lt_of_mul_lt_mul_right (a := v.2)
    calc w.before i * v'.2 * v.2 = w.before i * v.2 * v'.2 := by grind
      _ < v.1 * v'.2 := Nat.mul_lt_mul_of_pos_right a.lo v2'
      _ = _ := h
theorem raw_congr {w : Worth} {v v' : At} {i : Nat} (h : Eqf v v') : Eqf (raw w v i) (raw w v' i) := by
  unfold Eqf at h
  show (i * (v.2 * w.getD i 0) + (v.1 - w.before i * v.2)) * (v'.2 * w.getD i 0) = (i * (v'.2 * w.getD i 0) + (v'.1 - w.before i * v'.2)) * (v.2 * w.getD i 0)
  have e : (v.1 - w.before i * v.2) * v'.2 = (v'.1 - w.before i * v'.2) * v.2 := by
    rw [Nat.sub_mul, Nat.sub_mul, h]
    congr 1
    grind
  grind
theorem place_congr {w : Worth} {v v' : At} (v2 : 0 < v.2) (v2' : 0 < v'.2) (hs : Le v (w.sum, 1)) (h : Eqf v v') : w.place v = w.place v' := by
  by_cases e : v.1 = 0
  · have e' : v'.1 = 0 := by
      unfold Eqf at h
      rw [e, Nat.zero_mul] at h
      rcases Nat.mul_eq_zero.mp h.symm with z | z
      · exact z
      · omega
    unfold Worth.place
    rw [if_pos e, if_pos e']
  · have a := idx_cell (w := w) (v := v) (by omega) hs
    rw [place_eq a, place_eq (a.congr v2 v2' h)]
    exact lowest_congr (raw_pos v2 a) (raw_pos v2' (a.congr v2 v2' h)) (raw_congr h)
/-- the first place of v is not behind a place whose mark is v -/
theorem place_le {w : Worth} {v q : At} (v2 : 0 < v.2) (q0 : 0 < q.2) (hq : q.1 ≤ w.length * q.2) (h : Eqf (w.mark q) v) : Le (w.place v) q := by
  by_cases e : v.1 = 0
  · unfold Worth.place
    rw [if_pos e]
    show 0 * q.2 ≤ _
    omega
  have hs : Le v (w.sum, 1) := Le.congr (p := w.mark q) q0 Nat.one_pos h (Eqf.refl _) (mark_total q0 hq)
  have a := idx_cell (w := w) (v := v) (by omega) hs
  rw [place_eq a]
  refine Le.congr (raw_pos v2 a) q0 (lowest_eqf (raw_pos v2 a)).symm (Eqf.refl _) ?_
  generalize idx w v = i at a
  obtain ⟨o, u⟩ := q
  have q0 : 0 < u := q0
  have h : (w.before (o / u) * u + w.getD (o / u) 0 * (o % u)) * v.2 = v.1 * u := h
  have eo := Nat.div_add_mod o u
  have hi := a.hi
  have lo := a.lo
  have hic : i ≤ o / u := by
    apply Nat.le_of_not_lt
    intro hc
    have h1 := before_mono w (show o / u + 1 ≤ i from hc)
    rw [before_succ] at h1
    have h2 : w.getD (o / u) 0 * (o % u) ≤ w.getD (o / u) 0 * u := Nat.mul_le_mul_left _ (Nat.le_of_lt (Nat.mod_lt _ q0))
    have h3 : v.1 * u ≤ w.before i * v.2 * u := by
      rw [← h]
      calc (w.before (o / u) * u + w.getD (o / u) 0 * (o % u)) * v.2 ≤ (w.before (o / u) * u + w.getD (o / u) 0 * u) * v.2 := Nat.mul_le_mul_right _ (Nat.add_le_add_left h2 _)
        _ = (w.before (o / u) + w.getD (o / u) 0) * (u * v.2) := by grind
        _ ≤ w.before i * (u * v.2) := Nat.mul_le_mul_right _ h1
        _ = _ := by grind
    have := Nat.le_of_mul_le_mul_right h3 q0
    omega
  show (i * (v.2 * w.getD i 0) + (v.1 - w.before i * v.2)) * u ≤ o * (v.2 * w.getD i 0)
  have hd : v.1 - w.before i * v.2 ≤ w.getD i 0 * v.2 := by
    rw [before_succ, Nat.add_mul] at hi
    omega
  by_cases hlt : i < o / u
  · have h1 : (i + 1) * u ≤ o := by
      have h2 : (i + 1) * u ≤ o / u * u := Nat.mul_le_mul_right _ hlt
      have h3 := Nat.div_mul_le_self o u
      omega
    calc (i * (v.2 * w.getD i 0) + (v.1 - w.before i * v.2)) * u ≤ (i * (v.2 * w.getD i 0) + w.getD i 0 * v.2) * u := Nat.mul_le_mul_right _ (Nat.add_le_add_left hd _)
      _ = (i + 1) * u * (v.2 * w.getD i 0) := by grind
      _ ≤ _ := Nat.mul_le_mul_right _ h1
  · have ei : o / u = i := by omega
    rw [ei] at h eo
    have h1 : (v.1 - w.before i * v.2) * u = w.getD i 0 * (o % u) * v.2 := by
      rw [Nat.sub_mul, ← h]
      rw [Nat.add_mul]
      have : w.before i * v.2 * u = w.before i * u * v.2 := by grind
      omega
    apply Nat.le_of_eq
    calc (i * (v.2 * w.getD i 0) + (v.1 - w.before i * v.2)) * u = i * (v.2 * w.getD i 0) * u + (v.1 - w.before i * v.2) * u := by grind
      _ = i * (v.2 * w.getD i 0) * u + w.getD i 0 * (o % u) * v.2 := by rw [h1]
      _ = (u * i + o % u) * (v.2 * w.getD i 0) := by grind
      _ = _ := by rw [eo]
/-- a place whose mark is below v is before the first place of v -/
theorem le_place {w : Worth} {v q : At} (v2 : 0 < v.2) (q0 : 0 < q.2) (hs : Le v (w.sum, 1)) (h : ¬ Le v (w.mark q)) : Le q (w.place v) := by
  have v1 : 0 < v.1 := by
    apply Nat.pos_of_ne_zero
    intro e
    apply h
    show v.1 * _ ≤ _
    rw [e]; omega
  have a := idx_cell (w := w) (v := v) v1 hs
  rw [place_eq a]
  refine Le.congr q0 (raw_pos v2 a) (Eqf.refl _) (lowest_eqf (raw_pos v2 a)).symm ?_
  generalize idx w v = i at a
  obtain ⟨o, u⟩ := q
  have q0 : 0 < u := q0
  have h : ¬ v.1 * u ≤ (w.before (o / u) * u + w.getD (o / u) 0 * (o % u)) * v.2 := h
  have eo := Nat.div_add_mod o u
  have hi := a.hi
  have lo := a.lo
  have hic : o / u ≤ i := by
    apply Nat.le_of_not_lt
    intro hc
    apply h
    have h1 := before_mono w (show i + 1 ≤ o / u from hc)
    calc v.1 * u ≤ w.before (i + 1) * v.2 * u := Nat.mul_le_mul_right _ hi
      _ = w.before (i + 1) * (u * v.2) := by grind
      _ ≤ w.before (o / u) * (u * v.2) := Nat.mul_le_mul_right _ h1
      _ = w.before (o / u) * u * v.2 := by grind
      _ ≤ _ := Nat.mul_le_mul_right _ (Nat.le_add_right _ _)
  show o * (v.2 * w.getD i 0) ≤ (i * (v.2 * w.getD i 0) + (v.1 - w.before i * v.2)) * u
  by_cases hlt : o / u < i
  · have h1 : o ≤ i * u := by
      have h2 : (o / u + 1) * u ≤ i * u := Nat.mul_le_mul_right _ hlt
      have h3 := Nat.mod_lt o q0
      have h4 : (o / u + 1) * u = u * (o / u) + u := by grind
      omega
    calc o * (v.2 * w.getD i 0) ≤ i * u * (v.2 * w.getD i 0) := Nat.mul_le_mul_right _ h1
      _ = i * (v.2 * w.getD i 0) * u := by grind
      _ ≤ _ := Nat.mul_le_mul_right _ (Nat.le_add_right _ _)
  · have ei : o / u = i := by omega
    rw [ei] at h eo
    have h1 : w.getD i 0 * (o % u) * v.2 ≤ (v.1 - w.before i * v.2) * u := by
      rw [Nat.sub_mul]
      have h2 : (w.before i * u + w.getD i 0 * (o % u)) * v.2 = w.before i * v.2 * u + w.getD i 0 * (o % u) * v.2 := by grind
      omega
    calc o * (v.2 * w.getD i 0) = (u * i + o % u) * (v.2 * w.getD i 0) := by rw [eo]
      _ = i * (v.2 * w.getD i 0) * u + w.getD i 0 * (o % u) * v.2 := by grind
      _ ≤ i * (v.2 * w.getD i 0) * u + (v.1 - w.before i * v.2) * u := Nat.add_le_add_left h1 _
      _ = _ := by grind
theorem place_isAt {w : Worth} {v : At} (v2 : 0 < v.2) (hs : Le v (w.sum, 1)) : isAt (w.place v) = true := by
  by_cases e : v.1 = 0
  · unfold Worth.place
    rw [if_pos e]
    rfl
  · have a := idx_cell (w := w) (v := v) (by omega) hs
    rw [place_eq a]
    exact lowest_isAt (raw_pos v2 a)
/-- the first place of v from q on -/
def from_ (w : Worth) (q v : At) : At := if le q (w.place v) then w.place v else q
theorem from_congr {w : Worth} {q v v' : At} (v2 : 0 < v.2) (v2' : 0 < v'.2) (hs : Le v (w.sum, 1)) (h : Eqf v v') : from_ w q v = from_ w q v' := by
  unfold from_
  rw [place_congr v2 v2' hs h]
theorem from_here {w : Worth} {q v : At} (v2 : 0 < v.2) (hq : In w.length q) (h : Eqf (w.mark q) v) : from_ w q v = q := by
  have q0 := isAt_pos hq.1
  have hs : Le v (w.sum, 1) := Le.congr (p := w.mark q) q0 Nat.one_pos h (Eqf.refl _) (mark_total q0 hq.2)
  unfold from_
  split
  · rename_i hle
    exact (isAt_eq hq.1 (place_isAt v2 hs) ((le_iff.mp hle).anti (place_le v2 q0 hq.2 h))).symm
  · rfl
theorem from_later {w : Worth} {q v : At} (v2 : 0 < v.2) (q0 : 0 < q.2) (hs : Le v (w.sum, 1)) (h : ¬ Le v (w.mark q)) : from_ w q v = w.place v := by
  unfold from_
  rw [if_pos (le_iff.mpr (le_place v2 q0 hs h))]
end Ck

namespace Ck
open Kv204
/-! ### places, stretches, worths of the program -/
structure OkP (n : Nat) (q : At) : Prop where
  at_ : isAt q = true
  le : q.1 ≤ n * q.2
  small : q.2 ≤ 2 ^ 58
structure OkS (n : Nat) (s : Stretch) : Prop where
  a : OkP n s.1
  b : OkP n s.2
  le : Le s.1 s.2
structure OkW (n : Nat) (w : Worth) : Prop where
  len : w.length = n
  most : n ≤ 64
  each : ∀ x ∈ w, x ≤ 1000
theorem OkP.pos {n : Nat} {q : At} (h : OkP n q) : 0 < q.2 := isAt_pos h.at_
theorem OkP.in_ {n : Nat} {q : At} {w : Worth} (h : OkP n q) (e : w.length = n) : In w.length q := ⟨h.at_, by rw [e]; exact h.le⟩
theorem of_pos {n : Nat} {s : Stretch} (w : Worth) (h : OkS n s) : 0 < (w.of_ s).2 := minus_pos h.b.pos h.a.pos
theorem mkp {n : Nat} {s : Stretch} (w : Worth) (h : OkS n s) : 0 < (w.mark s.1).2 := h.a.pos
theorem t3p {n : Nat} {s : Stretch} (w : Worth) (k : Nat) (h : OkS n s) : 0 < ((k * (w.of_ s).1, 3 * (w.of_ s).2) : At).2 := Nat.mul_pos (by decide) (of_pos w h)
/-! ### thirds -/
def wholeL (w : Worth) (s : Stretch) : At := lowest (w.of_ s)
def thirdL (w : Worth) (s : Stretch) : At := lowest ((wholeL w s).1, 3 * (wholeL w s).2)
def mark1 (w : Worth) (s : Stretch) : At := lowest (plus (lowest (w.mark s.1)) (thirdL w s))
def mark2 (w : Worth) (s : Stretch) : At := lowest (plus (mark1 w s) (thirdL w s))
section
variable {n : Nat} {w : Worth} {s : Stretch}
theorem wholeL_pos (h : OkS n s) : 0 < (wholeL w s).2 := lowest_pos (of_pos w h)
theorem thirdL_pos (h : OkS n s) : 0 < (thirdL w s).2 := lowest_pos (Nat.mul_pos (by decide) (wholeL_pos h))
theorem thirdL_eqf (h : OkS n s) : Eqf (thirdL w s) ((w.of_ s).1, 3 * (w.of_ s).2) := by
  refine Eqf.trans (q := ((wholeL w s).1, 3 * (wholeL w s).2)) (Nat.mul_pos (by decide) (wholeL_pos h)) (lowest_eqf (Nat.mul_pos (by decide) (wholeL_pos h))) ?_
  have e : (wholeL w s).1 * (w.of_ s).2 = (w.of_ s).1 * (wholeL w s).2 := lowest_eqf (of_pos w h)
  show (wholeL w s).1 * (3 * (w.of_ s).2) = (w.of_ s).1 * (3 * (wholeL w s).2)
  grind
theorem mark1_pos (h : OkS n s) : 0 < (mark1 w s).2 := lowest_pos (plus_pos (lowest_pos (mkp w h)) (thirdL_pos h))
theorem mark2_pos (h : OkS n s) : 0 < (mark2 w s).2 := lowest_pos (plus_pos (mark1_pos h) (thirdL_pos h))
theorem mark1_eqf (h : OkS n s) : Eqf (mark1 w s) (plus (w.mark s.1) (1 * (w.of_ s).1, 3 * (w.of_ s).2)) := by
  refine Eqf.trans (plus_pos (lowest_pos (mkp w h)) (thirdL_pos h)) (lowest_eqf (plus_pos (lowest_pos (mkp w h)) (thirdL_pos h))) ?_
  refine plus_congr (lowest_eqf (p := w.mark s.1) h.a.pos) ?_
  rw [Nat.one_mul]
  exact thirdL_eqf h
theorem mark2_eqf (h : OkS n s) : Eqf (mark2 w s) (plus (w.mark s.1) (2 * (w.of_ s).1, 3 * (w.of_ s).2)) := by
  refine Eqf.trans (plus_pos (mark1_pos h) (thirdL_pos h)) (lowest_eqf (plus_pos (mark1_pos h) (thirdL_pos h))) ?_
  have p3 : 0 < 3 * (w.of_ s).2 := Nat.mul_pos (by decide) (of_pos w h)
  refine Eqf.trans (q := plus (plus (w.mark s.1) (1 * (w.of_ s).1, 3 * (w.of_ s).2)) ((w.of_ s).1, 3 * (w.of_ s).2)) (plus_pos (plus_pos h.a.pos p3) p3) (plus_congr (mark1_eqf h) (thirdL_eqf h)) ?_
  generalize w.mark s.1 = a
  generalize (w.of_ s).1 = v1
  generalize (w.of_ s).2 = v2
  show ((a.1 * (3 * v2) + 1 * v1 * a.2) * (3 * v2) + v1 * (a.2 * (3 * v2))) * (a.2 * (3 * v2)) = (a.1 * (3 * v2) + 2 * v1 * a.2) * (a.2 * (3 * v2) * (3 * v2))
  grind
theorem part_le (hw : w.length = n) (h : OkS n s) {k : Nat} (hk : k ≤ 3) : Le (plus (w.mark s.1) (k * (w.of_ s).1, 3 * (w.of_ s).2)) (w.sum, 1) := by
  have v0 := of_pos w h
  have h1 : Le (k * (w.of_ s).1, 3 * (w.of_ s).2) (w.of_ s) := by
    show k * (w.of_ s).1 * (w.of_ s).2 ≤ (w.of_ s).1 * (3 * (w.of_ s).2)
    calc k * (w.of_ s).1 * (w.of_ s).2 = k * ((w.of_ s).1 * (w.of_ s).2) := by grind
      _ ≤ 3 * ((w.of_ s).1 * (w.of_ s).2) := Nat.mul_le_mul_right _ hk
      _ = _ := by grind
  have h2 := plus_le_right (p := w.mark s.1) h1
  have h3 : Eqf (plus (w.mark s.1) (w.of_ s)) (w.mark s.2) := plus_minus (mark_mono h.a.pos h.b.pos h.le)
  have h4 := mark_total (w := w) h.b.pos (by rw [hw]; exact h.b.le)
  exact Le.trans (q := plus (w.mark s.1) (w.of_ s)) (plus_pos h.a.pos v0) h2 (Le.trans (q := w.mark s.2) h.b.pos (Le.of_eqf h3) h4)
theorem part_ge {k : Nat} : Le (w.mark s.1) (plus (w.mark s.1) (k * (w.of_ s).1, 3 * (w.of_ s).2)) := le_plus _ _
theorem mark1_le (hw : w.length = n) (h : OkS n s) : Le (mark1 w s) (w.sum, 1) :=
  Le.trans (plus_pos (mkp w h) (t3p w 1 h)) (Le.of_eqf (mark1_eqf h)) (part_le hw h (by decide))
theorem mark2_le (hw : w.length = n) (h : OkS n s) : Le (mark2 w s) (w.sum, 1) :=
  Le.trans (plus_pos (mkp w h) (t3p w 2 h)) (Le.of_eqf (mark2_eqf h)) (part_le hw h (by decide))
theorem mark1_ge (h : OkS n s) : Le (w.mark s.1) (mark1 w s) :=
  Le.trans (plus_pos (mkp w h) (t3p w 1 h)) (part_ge (k := 1)) (Le.of_eqf (mark1_eqf h).symm)
theorem mark2_ge (h : OkS n s) : Le (w.mark s.1) (mark2 w s) :=
  Le.trans (plus_pos (mkp w h) (t3p w 2 h)) (part_ge (k := 2)) (Le.of_eqf (mark2_eqf h).symm)
theorem thirds_eq (hw : w.length = n) (h : OkS n s) : w.thirds s = (from_ w s.1 (mark1 w s), from_ w s.1 (mark2 w s)) := by
  rw [from_congr (mark1_pos h) (plus_pos (mkp w h) (t3p w 1 h)) (mark1_le hw h) (mark1_eqf h),
    from_congr (mark2_pos h) (plus_pos (mkp w h) (t3p w 2 h)) (mark2_le hw h) (mark2_eqf h)]
  rfl
end
/-! ### the best -/
def bestF (v : Nat → At) (b k : Nat) : Nat := if le (v k) (v b) then b else k
theorem best_cons (v : Nat → At) (h : Nat) (t : List Nat) : best v (h :: t) = t.foldl (bestF v) h := by
  show t.foldl _ (if le (v h) (v h) then h else h) = _
  rw [ite_self]
  rfl
theorem bestF_congr {v v' : Nat → At} {l : List Nat} (e : ∀ k ∈ l, v k = v' k) {b : Nat} (hb : b ∈ l) {k : Nat} (hk : k ∈ l) : bestF v b k = bestF v' b k := by
  unfold bestF
  rw [e k hk, e b hb]
theorem bestF_mem {v : Nat → At} {l : List Nat} {b k : Nat} (hb : b ∈ l) (hk : k ∈ l) : bestF v b k ∈ l := by
  unfold bestF
  split <;> assumption
theorem fold_mem {v : Nat → At} {l : List Nat} : ∀ (t : List Nat) (b : Nat), (∀ x ∈ t, x ∈ l) → b ∈ l → t.foldl (bestF v) b ∈ l
  | [], _, _, hb => hb
  | k :: t, b, ht, hb => fold_mem t _ (fun x hx => ht x (List.mem_cons_of_mem _ hx)) (bestF_mem hb (ht k (List.mem_cons_self ..)))
theorem best_mem {v : Nat → At} {h : Nat} {t : List Nat} : best v (h :: t) ∈ h :: t := by
  rw [best_cons]
  exact fold_mem t h (fun x hx => List.mem_cons_of_mem _ hx) (List.mem_cons_self ..)
theorem fold_congr {v v' : Nat → At} {l : List Nat} (e : ∀ k ∈ l, v k = v' k) : ∀ (t : List Nat) (b : Nat), (∀ x ∈ t, x ∈ l) → b ∈ l → t.foldl (bestF v) b = t.foldl (bestF v') b
  | [], _, _, _ => rfl
  | k :: t, b, ht, hb => by
    show t.foldl (bestF v) (bestF v b k) = t.foldl (bestF v') (bestF v' b k)
    rw [← bestF_congr e hb (ht k (List.mem_cons_self ..))]
    exact fold_congr e t _ (fun x hx => ht x (List.mem_cons_of_mem _ hx)) (bestF_mem hb (ht k (List.mem_cons_self ..)))
theorem best_congr {v v' : Nat → At} {h : Nat} {t : List Nat} (e : ∀ k ∈ h :: t, v k = v' k) : best v (h :: t) = best v' (h :: t) := by
  rw [best_cons, best_cons]
  exact fold_congr e t h (fun x hx => List.mem_cons_of_mem _ hx) (List.mem_cons_self ..)
theorem fold_max {v : Nat → At} {l : List Nat} (p : ∀ k ∈ l, 0 < (v k).2) : ∀ (t : List Nat) (b : Nat), (∀ x ∈ t, x ∈ l) → b ∈ l → Le (v b) (v (t.foldl (bestF v) b)) ∧ ∀ x ∈ t, Le (v x) (v (t.foldl (bestF v) b))
  | [], b, _, _ => ⟨Le.refl _, fun x hx => nomatch hx⟩
  | k :: t, b, ht, hb => by
    have hk := ht k (List.mem_cons_self ..)
    have hm := bestF_mem (v := v) hb hk
    have ih := fold_max p t (bestF v b k) (fun x hx => ht x (List.mem_cons_of_mem _ hx)) hm
    have h1 : Le (v b) (v (bestF v b k)) ∧ Le (v k) (v (bestF v b k)) := by
      unfold bestF
      split
      · rename_i e
        exact ⟨Le.refl _, le_iff.mp e⟩
      · rename_i e
        refine ⟨?_, Le.refl _⟩
        rcases Le.total (v b) (v k) with z | z
        · exact z
        · exact absurd (le_iff.mpr z) e
    refine ⟨Le.trans (p _ hm) h1.1 ih.1, fun x hx => ?_⟩
    rcases List.mem_cons.mp hx with rfl | hx
    · exact Le.trans (p _ hm) h1.2 ih.1
    · exact ih.2 x hx
theorem best_max {v : Nat → At} {h : Nat} {t : List Nat} (p : ∀ k ∈ h :: t, 0 < (v k).2) {k : Nat} (hk : k ∈ h :: t) : Le (v k) (v (best v (h :: t))) := by
  rw [best_cons]
  have := fold_max p t h (fun x hx => List.mem_cons_of_mem _ hx) (List.mem_cons_self ..)
  rcases List.mem_cons.mp hk with rfl | hk
  · exact this.1
  · exact this.2 k hk
theorem bestF_lowest {v : Nat → At} {b k : Nat} (hb : 0 < (v b).2) (hk : 0 < (v k).2) : bestF v b k = if le (lowest (v k)) (lowest (v b)) then b else k := by
  unfold bestF
  rw [le_lowest hk hb]
/-! ### trim -/
def wantL (w : Worth) (s r : Stretch) : At := lowest (plus (lowest (w.mark s.1)) (lowest (w.of_ r)))
section
variable {n : Nat} {w : Worth} {s r : Stretch}
theorem want_pos (h : OkS n s) (k : OkS n r) : 0 < (wantL w s r).2 := lowest_pos (plus_pos (lowest_pos (mkp w h)) (lowest_pos (of_pos w k)))
theorem want_eqf (h : OkS n s) (k : OkS n r) : Eqf (wantL w s r) (plus (w.mark s.1) (w.of_ r)) :=
  Eqf.trans (plus_pos (lowest_pos (mkp w h)) (lowest_pos (of_pos w k))) (lowest_eqf (plus_pos (lowest_pos (mkp w h)) (lowest_pos (of_pos w k)))) (plus_congr (lowest_eqf (p := w.mark s.1) h.a.pos) (lowest_eqf (of_pos w k)))
theorem want_le (hw : w.length = n) (h : OkS n s) (k : OkS n r) (l : Le (w.of_ r) (w.of_ s)) : Le (wantL w s r) (w.sum, 1) := by
  refine Le.trans (plus_pos (mkp w h) (of_pos w k)) (Le.of_eqf (want_eqf h k)) ?_
  have h2 := plus_le_right (p := w.mark s.1) l
  have h3 : Eqf (plus (w.mark s.1) (w.of_ s)) (w.mark s.2) := plus_minus (mark_mono h.a.pos h.b.pos h.le)
  have h4 := mark_total (w := w) h.b.pos (by rw [hw]; exact h.b.le)
  exact Le.trans (q := plus (w.mark s.1) (w.of_ s)) (plus_pos h.a.pos (of_pos w h)) h2 (Le.trans (q := w.mark s.2) h.b.pos (Le.of_eqf h3) h4)
theorem want_ge (h : OkS n s) (k : OkS n r) : Le (w.mark s.1) (wantL w s r) :=
  Le.trans (plus_pos (mkp w h) (of_pos w k)) (le_plus _ _) (Le.of_eqf (want_eqf h k).symm)
theorem want_from (hw : w.length = n) (h : OkS n s) (k : OkS n r) (l : Le (w.of_ r) (w.of_ s)) : from_ w s.1 (wantL w s r) = from_ w s.1 (plus (w.mark s.1) (w.of_ r)) :=
  from_congr (want_pos h k) (plus_pos (mkp w h) (of_pos w k)) (want_le hw h k l) (want_eqf h k)
end
/-! ### sizes -/
structure Sz (b : Nat) (p : At) : Prop where
  one : p.1 < 2 ^ b
  two : p.2 < 2 ^ b
  pos : 0 < p.2
theorem Sz.mono {a b : Nat} {p : At} (h : Sz a p) (l : a ≤ b) : Sz b p :=
  ⟨Nat.lt_of_lt_of_le h.one (Nat.pow_le_pow_right (by decide) l), Nat.lt_of_lt_of_le h.two (Nat.pow_le_pow_right (by decide) l), h.pos⟩
theorem Sz.low {b : Nat} {p : At} (h : Sz b p) : Sz b (lowest p) :=
  ⟨Nat.lt_of_le_of_lt (lowest_le1 h.pos) h.one, Nat.lt_of_le_of_lt (lowest_le2 h.pos) h.two, lowest_pos h.pos⟩
theorem mul_lt_pow {x y a b : Nat} (h : x < 2 ^ a) (k : y < 2 ^ b) : x * y < 2 ^ (a + b) := by
  rw [Nat.pow_add]
  exact Nat.mul_lt_mul'' h k
theorem Sz.plus {a b : Nat} {p q : At} (h : Sz a p) (k : Sz b q) : Sz (a + b + 1) (plus p q) := by
  have h1 := mul_lt_pow h.one k.two
  have h2 := mul_lt_pow k.one h.two
  have h3 := mul_lt_pow h.two k.two
  have e : 2 ^ (b + a) = 2 ^ (a + b) := by rw [Nat.add_comm]
  have e2 : 2 ^ (a + b + 1) = 2 ^ (a + b) * 2 := Nat.pow_succ ..
  refine ⟨?_, ?_, plus_pos h.pos k.pos⟩
  · show p.1 * q.2 + q.1 * p.2 < _
    omega
  · show p.2 * q.2 < _
    omega
theorem Sz.minus {a b : Nat} {p q : At} (h : Sz a p) (k : Sz b q) : Sz (a + b) (minus p q) := by
  have h1 := mul_lt_pow h.one k.two
  have h3 := mul_lt_pow h.two k.two
  refine ⟨?_, h3, minus_pos h.pos k.pos⟩
  show p.1 * q.2 - q.1 * p.2 < _
  omega
theorem sum_le : ∀ (w : List Nat), (∀ x ∈ w, x ≤ 1000) → w.sum ≤ w.length * 1000
  | [], _ => by simp
  | a :: w, h => by
    have h1 := h a (List.mem_cons_self ..)
    have h2 := sum_le w fun x hx => h x (List.mem_cons_of_mem _ hx)
    rw [List.sum_cons, List.length_cons, Nat.add_mul]
    omega
theorem OkW.sum {n : Nat} {w : Worth} (h : OkW n w) : w.sum ≤ 64000 := by
  have h1 := sum_le w h.each
  have h2 := h.len
  have h3 := h.most
  omega
theorem OkP.sz {n : Nat} {q : At} (hn : n ≤ 64) (h : OkP n q) : Sz 65 q := by
  have h1 := h.le
  have h2 := h.small
  have h3 : n * q.2 ≤ 64 * q.2 := Nat.mul_le_mul_right _ hn
  refine ⟨?_, ?_, h.pos⟩
  · have : (2:Nat) ^ 65 = 64 * 2 ^ 58 * 2 := by decide
    omega
  · have : (2:Nat) ^ 65 = 2 ^ 58 * 128 := by decide
    omega
theorem mark_sz {n : Nat} {q : At} {w : Worth} (hw : OkW n w) (h : OkP n q) : Sz 80 (w.mark q) := by
  have h1 : (w.mark q).1 * 1 ≤ w.sum * q.2 := mark_total (w := w) h.pos (by rw [hw.len]; exact h.le)
  have h2 := hw.sum
  have h3 : w.sum * q.2 ≤ 64000 * q.2 := Nat.mul_le_mul_right _ h2
  have h4 := h.small
  have e : (2:Nat) ^ 80 = 2 ^ 58 * 4194304 := by decide
  refine ⟨?_, ?_, h.pos⟩
  · omega
  · show q.2 < _
    omega
theorem of_sz {n : Nat} {s : Stretch} {w : Worth} (hw : OkW n w) (h : OkS n s) : Sz 160 (w.of_ s) := (mark_sz hw h.b).minus (mark_sz hw h.a)
theorem third_sz {n : Nat} {s : Stretch} {w : Worth} (hw : OkW n w) (h : OkS n s) : Sz 162 ((wholeL w s).1, 3 * (wholeL w s).2) := by
  have h1 := (of_sz hw h).low
  have e : (2:Nat) ^ 162 = 2 ^ 160 * 4 := by decide
  refine ⟨?_, ?_, Nat.mul_pos (by decide) h1.pos⟩
  · have := h1.one
    show (lowest (w.of_ s)).1 < _
    omega
  · have := h1.two
    show 3 * (lowest (w.of_ s)).2 < _
    omega
theorem mark1_sz {n : Nat} {s : Stretch} {w : Worth} (hw : OkW n w) (h : OkS n s) : Sz 243 (mark1 w s) := ((mark_sz hw h.a).low.plus (third_sz hw h).low).low
theorem mark2_sz {n : Nat} {s : Stretch} {w : Worth} (hw : OkW n w) (h : OkS n s) : Sz 406 (mark2 w s) := ((mark1_sz hw h).plus (third_sz hw h).low).low
theorem want_sz {n : Nat} {s r : Stretch} {w : Worth} (hw : OkW n w) (h : OkS n s) (k : OkS n r) : Sz 241 (wantL w s r) := ((mark_sz hw h.a).low.plus (of_sz hw k).low).low
end Ck

namespace Ck
open Kv204
/-! ### the object's fields, as plain data -/
structure M where
  cells : Nat
  stage : Nat
  pieces : List Stretch
  po : List Nat
  trimmed : Nat
  trimmings : Stretch
  parts : List Stretch
  pt : List Nat
def NO : At := (0, 1)
def NOS : Stretch := (NO, NO)
def M.cake (m : M) : Stretch := (NO, (m.cells, 1))
def begin_ (n : Nat) : M := ⟨n, 0, [], [0, 0, 0], 0, NOS, [], [0, 0, 0]⟩
def M.piece (m : M) (k : Nat) : Stretch := m.pieces.getD k NOS
def M.part (m : M) (k : Nat) : Stretch := m.parts.getD k NOS
def M.holder (m : M) : Nat := if m.po.getD 1 0 = m.trimmed then 1 else 2
def M.parter (m : M) : Nat := 3 - m.holder
def M.person (m : M) : Nat := if m.stage = 1 ∨ m.stage = 3 then 1 else if m.stage = 2 then 2 else if m.stage = 4 then m.parter else if m.stage = 5 then m.holder else 0
def M.turn (m : M) : Nat := if m.stage = 7 then 7 else m.stage + 16 * m.person
def ALL : List Nat := [0, 1, 2]
def M.choices (m : M) : List Nat :=
  if m.stage = 3 then (if m.po.getD 2 0 ≠ m.trimmed then [m.trimmed] else ALL.filter (· != m.trimmed))
  else if m.stage = 6 then ALL.filter (· != m.pt.getD m.holder 0) else ALL
def isPlace (p : At) (most : Nat) : Bool := (decide (1 ≤ p.2) && decide (p.2 ≤ most)) && decide (Nat.gcd p.1 p.2 = 1)
def within (p : At) (s : Stretch) : Bool := le s.1 p && le p s.2
def mayCut (s : Stretch) (f g : At) (most : Nat) : Bool := (isPlace f most && isPlace g most) && (within f s && (within g s && le f g))
def mayTrim (s : Stretch) (f : At) : Bool := isPlace f 17179869184 && within f s
def M.maySay (m : M) (t : Told) : Bool :=
  if m.stage = 0 then mayCut m.cake t.p t.q 4000
  else if m.stage = 1 then decide (t.which ≤ 2) && mayTrim (m.piece t.which) t.p
  else if m.stage = 4 then mayCut m.trimmings t.p t.q 288230376151711744
  else m.choices.contains t.which
def three (s : Stretch) (f g : At) : List Stretch := [(s.1, f), (f, g), (g, s.2)]
def M.choose (m : M) (k : Nat) : M :=
  if m.stage = 2 then { m with po := m.po.set 2 k }
  else if m.stage = 3 then { m with po := (m.po.set 1 k).set 0 (3 - k - m.po.getD 2 0) }
  else if m.stage = 5 then { m with pt := m.pt.set m.holder k }
  else { m with pt := (m.pt.set 0 k).set m.parter (3 - k - m.pt.getD m.holder 0) }
def M.trim (m : M) (k : Nat) (p : At) : M :=
  { m with trimmed := k, trimmings := (p, (m.piece k).2), pieces := m.pieces.set k ((m.piece k).1, p) }
def M.word (m : M) (t : Told) : M :=
  if m.stage = 0 then { m with pieces := three m.cake t.p t.q }
  else if m.stage = 1 then m.trim t.which t.p
  else if m.stage = 4 then { m with parts := three m.trimmings t.p t.q }
  else m.choose t.which
def M.next (m : M) : M := { m with stage := m.stage + 1 }
def M.ended (m : M) : M := { m with parts := [m.trimmings, m.trimmings, m.trimmings], stage := 7 }
def M.fin (m : M) : M := if m.stage = 4 ∧ m.trimmings.1 = m.trimmings.2 then m.ended else m
def M.said (m : M) (t : Told) : M := (m.word t).next.fin
def M.rival (m : M) (w : Worth) (k : Nat) : Nat := best (fun j => w.of_ (m.piece j)) (ALL.filter (· != k))
def M.advise (m : M) (w : Worth) : Told :=
  if m.stage = 0 then ⟨0, (w.thirds m.cake).1, (w.thirds m.cake).2⟩
  else if m.stage = 4 then ⟨0, (w.thirds m.trimmings).1, (w.thirds m.trimmings).2⟩
  else
    let k := best (fun j => w.of_ (if m.stage < 4 then m.piece j else m.part j)) m.choices
    if m.stage = 1 then ⟨k, from_ w (m.piece k).1 (plus (w.mark (m.piece k).1) (w.of_ (m.piece (m.rival w k)))), NO⟩
    else ⟨k, NO, NO⟩
def M.share (m : M) (i : Nat) : Stretch × Stretch := (m.piece (m.po.getD i 0), m.part (m.pt.getD i 0))
/-! ### the lines that are told -/
def partsOf (a : Abs) : List Stretch := if a.parts.isSome then [part a 0, part a 1, part a 2] else if turn a = .over then [trimmings a, trimmings a, trimmings a] else []
def ptOf (a : Abs) : List Nat :=
  let x := a.tookX.getD 0
  let z := a.took0.getD 0
  let y := if a.took0.isSome then third x z else 0
  if owner a = 1 then [z, x, y] else [z, y, x]
def mOf (a : Abs) : M :=
  ⟨a.cells, numberOf (turn a), if a.cuts.isSome then [piece a 0, piece a 1, piece a 2] else [],
    [if a.took1.isSome then third (a.took2.getD 0) (a.took1.getD 0) else 0, a.took1.getD 0, a.took2.getD 0], trimmed a, trimmings a, partsOf a, ptOf a⟩
structure Two (n : Nat) (s : Stretch) (most : Nat) (p q : At) : Prop where
  p0 : isAt p = true
  q0 : isAt q = true
  a : Le s.1 p
  b : Le p q
  c : Le q s.2
  pm : p.2 ≤ most
  qm : q.2 ≤ most
structure Trm (s : Stretch) (k : Nat) (t : At) : Prop where
  k2 : k ≤ 2
  t0 : isAt t = true
  a : Le s.1 t
  b : Le t s.2
  tm : t.2 ≤ 2 ^ 34
inductive Good : Abs → Prop
  | cut {n : Nat} : 1 ≤ n → n ≤ 64 → Good { cells := n }
  | trim {n : Nat} {p q : At} : 1 ≤ n → n ≤ 64 → Two n (NO, (n, 1)) 4000 p q → Good { cells := n, cuts := some (p, q) }
  | second {n : Nat} {p q t : At} {k : Nat} : 1 ≤ n → n ≤ 64 → Two n (NO, (n, 1)) 4000 p q → Trm (whole { cells := n, cuts := some (p, q) } k) k t → Good { cells := n, cuts := some (p, q), trim := some (k, t) }
  | first {n : Nat} {p q t : At} {k x : Nat} : 1 ≤ n → n ≤ 64 → Two n (NO, (n, 1)) 4000 p q → Trm (whole { cells := n, cuts := some (p, q) } k) k t → x ≤ 2 →
      Good { cells := n, cuts := some (p, q), trim := some (k, t), took2 := some x }
  | took {n : Nat} {p q t : At} {k x y : Nat} : 1 ≤ n → n ≤ 64 → Two n (NO, (n, 1)) 4000 p q → Trm (whole { cells := n, cuts := some (p, q) } k) k t → x ≤ 2 → y ≤ 2 → y ≠ x → (x ≠ k → y = k) →
      Good { cells := n, cuts := some (p, q), trim := some (k, t), took2 := some x, took1 := some y }
  | owner {n : Nat} {p q t c d : At} {k x y : Nat} : 1 ≤ n → n ≤ 64 → Two n (NO, (n, 1)) 4000 p q → Trm (whole { cells := n, cuts := some (p, q) } k) k t → x ≤ 2 → y ≤ 2 → y ≠ x → (x ≠ k → y = k) →
      t ≠ (whole { cells := n, cuts := some (p, q) } k).2 → Two n (t, (whole { cells := n, cuts := some (p, q) } k).2) (2 ^ 58) c d →
      Good { cells := n, cuts := some (p, q), trim := some (k, t), took2 := some x, took1 := some y, parts := some (c, d) }
  | zero {n : Nat} {p q t c d : At} {k x y z : Nat} : 1 ≤ n → n ≤ 64 → Two n (NO, (n, 1)) 4000 p q → Trm (whole { cells := n, cuts := some (p, q) } k) k t → x ≤ 2 → y ≤ 2 → y ≠ x → (x ≠ k → y = k) →
      t ≠ (whole { cells := n, cuts := some (p, q) } k).2 → Two n (t, (whole { cells := n, cuts := some (p, q) } k).2) (2 ^ 58) c d → z ≤ 2 →
      Good { cells := n, cuts := some (p, q), trim := some (k, t), took2 := some x, took1 := some y, parts := some (c, d), tookX := some z }
  | done {n : Nat} {p q t c d : At} {k x y z v : Nat} : 1 ≤ n → n ≤ 64 → Two n (NO, (n, 1)) 4000 p q → Trm (whole { cells := n, cuts := some (p, q) } k) k t → x ≤ 2 → y ≤ 2 → y ≠ x → (x ≠ k → y = k) →
      t ≠ (whole { cells := n, cuts := some (p, q) } k).2 → Two n (t, (whole { cells := n, cuts := some (p, q) } k).2) (2 ^ 58) c d → z ≤ 2 → v ≤ 2 → v ≠ z →
      Good { cells := n, cuts := some (p, q), trim := some (k, t), took2 := some x, took1 := some y, parts := some (c, d), tookX := some z, took0 := some v }
section
variable {n : Nat} {p q t c d : At} {k x y z v : Nat}
abbrev A3 (n : Nat) (p q t : At) (k x y : Nat) : Abs := { cells := n, cuts := some (p, q), trim := some (k, t), took2 := some x, took1 := some y }
abbrev A4 (n : Nat) (p q t : At) (k x y : Nat) (c d : At) : Abs := { cells := n, cuts := some (p, q), trim := some (k, t), took2 := some x, took1 := some y, parts := some (c, d) }
abbrev A5 (n : Nat) (p q t : At) (k x y : Nat) (c d : At) (z : Nat) : Abs := { cells := n, cuts := some (p, q), trim := some (k, t), took2 := some x, took1 := some y, parts := some (c, d), tookX := some z }
abbrev A6 (n : Nat) (p q t : At) (k x y : Nat) (c d : At) (z v : Nat) : Abs := { cells := n, cuts := some (p, q), trim := some (k, t), took2 := some x, took1 := some y, parts := some (c, d), tookX := some z, took0 := some v }
abbrev cell2 (n : Nat) (p q : At) : Abs := { cells := n, cuts := some (p, q) }
theorem turn_took : turn (A3 n p q t k x y) = if t = (whole (cell2 n p q) k).2 then .over else .part := by
  show (if (t == (whole (cell2 n p q) k).2) = true then Turn.over else .part) = _
  by_cases e : t = (whole (cell2 n p q) k).2
  · rw [if_pos (beq_iff_eq.mpr e), if_pos e]
  · rw [if_neg (by rw [beq_iff_eq]; exact e), if_neg e]
theorem turn_owner (h : t ≠ (whole (cell2 n p q) k).2) : turn (A4 n p q t k x y c d) = .owner := by
  show (if (t == (whole (cell2 n p q) k).2) = true then Turn.over else .owner) = _
  rw [if_neg (by rw [beq_iff_eq]; exact h)]
theorem turn_zero (h : t ≠ (whole (cell2 n p q) k).2) : turn (A5 n p q t k x y c d z) = .zero := by
  show (if (t == (whole (cell2 n p q) k).2) = true then Turn.over else .zero) = _
  rw [if_neg (by rw [beq_iff_eq]; exact h)]
theorem turn_done (h : t ≠ (whole (cell2 n p q) k).2) : turn (A6 n p q t k x y c d z v) = .over := by
  show (if (t == (whole (cell2 n p q) k).2) = true then Turn.over else .over) = _
  rw [ite_self]
theorem own_po (hy : y ≠ x) (hk : x ≠ k → y = k) : (if (some x : Option Nat) = some k then 2 else 1) = if y = k then 1 else 2 := by
  by_cases e : x = k
  · subst e
    rw [if_pos rfl, if_neg hy]
  · rw [if_neg (fun h => e (Option.some.inj h)), if_pos (hk e)]
end
end Ck

namespace Ck
open Kv204
theorem le2 {k : Nat} (h : k ≤ 2) : k = 0 ∨ k = 1 ∨ k = 2 := by omega
theorem isPlace_iff {p : At} {most : Nat} : isPlace p most = true ↔ isAt p = true ∧ p.2 ≤ most := by
  unfold isPlace
  rw [Bool.and_eq_true, Bool.and_eq_true, decide_eq_true_iff, decide_eq_true_iff, decide_eq_true_iff, isAt_iff]
  constructor
  · rintro ⟨⟨a, b⟩, c⟩
    exact ⟨⟨a, c⟩, b⟩
  · rintro ⟨⟨a, c⟩, b⟩
    exact ⟨⟨a, b⟩, c⟩
theorem within_iff {p : At} {s : Stretch} : within p s = true ↔ Le s.1 p ∧ Le p s.2 := by
  unfold within
  rw [Bool.and_eq_true, le_iff, le_iff]
theorem mayCut_iff {n : Nat} {s : Stretch} {f g : At} {most : Nat} : mayCut s f g most = true ↔ Two n s most f g := by
  unfold mayCut
  simp only [Bool.and_eq_true, isPlace_iff, within_iff, le_iff]
  constructor
  · rintro ⟨⟨⟨a, b⟩, c, d⟩, ⟨e, e2⟩, ⟨f2, f3⟩, g2⟩
    exact ⟨a, c, e, g2, f3, b, d⟩
  · intro h
    exact ⟨⟨⟨h.p0, h.pm⟩, h.q0, h.qm⟩, ⟨h.a, Le.trans (isAt_pos h.q0) h.b h.c⟩, ⟨Le.trans (isAt_pos h.p0) h.a h.b, h.c⟩, h.b⟩
theorem rightTwo_iff {n : Nat} {s : Stretch} {f g : At} {most : Nat} : rightTwo s most f g = true ↔ Two n s most f g := by
  unfold rightTwo
  simp only [Bool.and_eq_true, le_iff, decide_eq_true_iff]
  constructor
  · rintro ⟨⟨⟨⟨⟨⟨a, b⟩, c⟩, d⟩, e⟩, f2⟩, g2⟩
    exact ⟨a, b, c, d, e, f2, g2⟩
  · intro h
    exact ⟨⟨⟨⟨⟨⟨h.p0, h.q0⟩, h.a⟩, h.b⟩, h.c⟩, h.pm⟩, h.qm⟩
theorem cut_same (n : Nat) (s : Stretch) (f g : At) (most : Nat) : mayCut s f g most = rightTwo s most f g := by
  rw [Bool.eq_iff_iff, mayCut_iff (n := n), rightTwo_iff (n := n)]
theorem trim_same (k : Nat) (s : Stretch) (f : At) : (decide (k ≤ 2) && mayTrim s f) = (decide (k ≤ 2) && isAt f && le s.1 f && le f s.2 && decide (f.2 ≤ TRIM)) := by
  unfold mayTrim
  rw [Bool.eq_iff_iff]
  simp only [Bool.and_eq_true, isPlace_iff, within_iff, le_iff, decide_eq_true_iff]
  constructor
  · rintro ⟨a, ⟨b, c⟩, d, e⟩
    exact ⟨⟨⟨⟨a, b⟩, d⟩, e⟩, c⟩
  · rintro ⟨⟨⟨⟨a, b⟩, d⟩, e⟩, c⟩
    exact ⟨a, ⟨b, c⟩, d, e⟩
theorem trm_iff {s : Stretch} {k : Nat} {f : At} : (decide (k ≤ 2) && isAt f && le s.1 f && le f s.2 && decide (f.2 ≤ TRIM)) = true ↔ Trm s k f := by
  simp only [Bool.and_eq_true, le_iff, decide_eq_true_iff]
  constructor
  · rintro ⟨⟨⟨⟨a, b⟩, c⟩, d⟩, e⟩
    exact ⟨a, b, c, d, e⟩
  · intro h
    exact ⟨⟨⟨⟨h.k2, h.t0⟩, h.a⟩, h.b⟩, h.tm⟩
/-! ### the stage -/
theorem over_iff {a : Abs} : (mOf a).stage = 7 ↔ turn a = .over := by
  show numberOf (turn a) = 7 ↔ _
  cases turn a <;> simp [numberOf]
/-! ### fields of each phase -/
section
variable {n : Nat} {p q t c d : At} {k x y z v : Nat}
def P3 (n : Nat) (p q t : At) (k : Nat) : List Stretch := [piece { cells := n, cuts := some (p, q), trim := some (k, t) } 0, piece { cells := n, cuts := some (p, q), trim := some (k, t) } 1, piece { cells := n, cuts := some (p, q), trim := some (k, t) } 2]
def W3 (n : Nat) (p q : At) : List Stretch := [(NO, p), (p, q), (q, (n, 1))]
theorem mOf_cut : mOf { cells := n } = ⟨n, 0, [], [0, 0, 0], 0, NOS, [], [0, 0, 0]⟩ := rfl
theorem mOf_trim : mOf { cells := n, cuts := some (p, q) } = ⟨n, 1, W3 n p q, [0, 0, 0], 0, NOS, [], [0, 0, 0]⟩ := rfl
theorem pt0 {o : Nat} : (if o = 1 then [0, 0, 0] else [0, 0, 0] : List Nat) = [0, 0, 0] := ite_self _
theorem mOf_second : mOf { cells := n, cuts := some (p, q), trim := some (k, t) } = ⟨n, 2, P3 n p q t k, [0, 0, 0], k, (t, (whole (cell2 n p q) k).2), [], [0, 0, 0]⟩ := by
  have e : ptOf { cells := n, cuts := some (p, q), trim := some (k, t) } = [0, 0, 0] := rfl
  unfold mOf
  rw [e]
  rfl
theorem mOf_first : mOf { cells := n, cuts := some (p, q), trim := some (k, t), took2 := some x } = ⟨n, 3, P3 n p q t k, [0, 0, x], k, (t, (whole (cell2 n p q) k).2), [], [0, 0, 0]⟩ := by
  have e : ptOf { cells := n, cuts := some (p, q), trim := some (k, t), took2 := some x } = [0, 0, 0] := pt0
  unfold mOf
  rw [e]
  rfl
theorem mOf_took1 (h : t ≠ (whole (cell2 n p q) k).2) : mOf (A3 n p q t k x y) = ⟨n, 4, P3 n p q t k, [third x y, y, x], k, (t, (whole (cell2 n p q) k).2), [], [0, 0, 0]⟩ := by
  have e : ptOf (A3 n p q t k x y) = [0, 0, 0] := pt0
  have e2 : turn (A3 n p q t k x y) = .part := by rw [turn_took, if_neg h]
  have e3 : partsOf (A3 n p q t k x y) = [] := by
    unfold partsOf
    rw [e2]
    rfl
  unfold mOf
  rw [e, e2, e3]
  rfl
theorem mOf_took2 (h : t = (whole (cell2 n p q) k).2) : mOf (A3 n p q t k x y) = ⟨n, 7, P3 n p q t k, [third x y, y, x], k, (t, (whole (cell2 n p q) k).2), [(t, (whole (cell2 n p q) k).2), (t, (whole (cell2 n p q) k).2), (t, (whole (cell2 n p q) k).2)], [0, 0, 0]⟩ := by
  have e : ptOf (A3 n p q t k x y) = [0, 0, 0] := pt0
  have e2 : turn (A3 n p q t k x y) = .over := by rw [turn_took, if_pos h]
  have e3 : partsOf (A3 n p q t k x y) = [(t, (whole (cell2 n p q) k).2), (t, (whole (cell2 n p q) k).2), (t, (whole (cell2 n p q) k).2)] := by
    unfold partsOf
    rw [e2]
    rfl
  unfold mOf
  rw [e, e2, e3]
  rfl
def pts (k y z u v : Nat) : List Nat := if y = k then [v, z, u] else [v, u, z]
theorem own_eq (hy : y ≠ x) (hk : x ≠ k → y = k) (L R : List Nat) : (if (if (some x : Option Nat) = some k then 2 else 1) = 1 then L else R) = if y = k then L else R := by
  rw [own_po hy hk]
  by_cases e : y = k
  · rw [if_pos e, if_pos e, if_pos rfl]
  · rw [if_neg e, if_neg e, if_neg (by decide)]
theorem mOf_owner (h : t ≠ (whole (cell2 n p q) k).2) : mOf (A4 n p q t k x y c d) = ⟨n, 5, P3 n p q t k, [third x y, y, x], k, (t, (whole (cell2 n p q) k).2), three (t, (whole (cell2 n p q) k).2) c d, [0, 0, 0]⟩ := by
  have e : ptOf (A4 n p q t k x y c d) = [0, 0, 0] := pt0
  unfold mOf
  rw [e, turn_owner h]
  rfl
theorem mOf_zero (hy : y ≠ x) (hk : x ≠ k → y = k) (h : t ≠ (whole (cell2 n p q) k).2) : mOf (A5 n p q t k x y c d z) = ⟨n, 6, P3 n p q t k, [third x y, y, x], k, (t, (whole (cell2 n p q) k).2), three (t, (whole (cell2 n p q) k).2) c d, pts k y z 0 0⟩ := by
  have e : ptOf (A5 n p q t k x y c d z) = pts k y z 0 0 := own_eq hy hk _ _
  unfold mOf
  rw [e, turn_zero h]
  rfl
theorem mOf_done (hy : y ≠ x) (hk : x ≠ k → y = k) (h : t ≠ (whole (cell2 n p q) k).2) : mOf (A6 n p q t k x y c d z v) = ⟨n, 7, P3 n p q t k, [third x y, y, x], k, (t, (whole (cell2 n p q) k).2), three (t, (whole (cell2 n p q) k).2) c d, pts k y z (third z v) v⟩ := by
  have e : ptOf (A6 n p q t k x y c d z v) = pts k y z (third z v) v := own_eq hy hk _ _
  unfold mOf
  rw [e, turn_done h]
  rfl
theorem own_is (hy : y ≠ x) (hk : x ≠ k → y = k) {a : Abs} (h2 : a.took2 = some x) (ht : trimmed a = k) : owner a = if y = k then 1 else 2 := by
  unfold owner
  rw [h2, ht]
  exact own_po hy hk
end
/-! ### turn -/
theorem turn_ok {a : Abs} (g : Good a) : (mOf a).turn = numberOf (turn a) + 16 * (who a).getD 0 := by
  cases g with
  | cut => rfl
  | trim => rfl
  | second => rw [mOf_second]; rfl
  | first => rw [mOf_first]; rfl
  | @took n p q t k x y h1 h2 h3 h4 h5 h6 h7 h8 =>
    by_cases e : t = (whole (cell2 n p q) k).2
    · rw [mOf_took2 e]
      unfold who
      rw [turn_took, if_pos e]
      rfl
    · rw [mOf_took1 e]
      unfold who
      rw [turn_took, if_neg e]
      show 4 + 16 * (3 - if y = k then 1 else 2) = 4 + 16 * (3 - owner (A3 n p q t k x y))
      rw [own_is (a := A3 n p q t k x y) h7 h8 rfl rfl]
  | @owner n p q t c d k x y h1 h2 h3 h4 h5 h6 h7 h8 h9 h10 =>
    rw [mOf_owner h9]
    unfold who
    rw [turn_owner h9]
    show 5 + 16 * (if y = k then 1 else 2) = 5 + 16 * (Kv204.owner (A4 n p q t k x y c d))
    rw [own_is (a := A4 n p q t k x y c d) h7 h8 rfl rfl]
  | @zero n p q t c d k x y z h1 h2 h3 h4 h5 h6 h7 h8 h9 h10 h11 =>
    rw [mOf_zero h7 h8 h9]
    unfold who
    rw [turn_zero h9]
    rfl
  | @done n p q t c d k x y z v h1 h2 h3 h4 h5 h6 h7 h8 h9 h10 h11 h12 h13 =>
    rw [mOf_done h7 h8 h9]
    unfold who
    rw [turn_done h9]
    rfl
/-! ### choices -/
theorem choices_first {k x : Nat} (hk : k ≤ 2) (hx : x ≤ 2) : (if ([0, 1, 2].filter fun j => (some x : Option Nat) != some j).contains k then [k] else [0, 1, 2].filter fun j => (some x : Option Nat) != some j) = if x ≠ k then [k] else ALL.filter (· != k) := by
  rcases le2 hk with rfl | rfl | rfl <;> rcases le2 hx with rfl | rfl | rfl <;> rfl
theorem choices_zero {z : Nat} (hz : z ≤ 2) : ([0, 1, 2].filter fun j => (some z : Option Nat) != some j) = ALL.filter (· != z) := by
  rcases le2 hz with rfl | rfl | rfl <;> rfl
theorem pts_at {k y z u v : Nat} : (pts k y z u v).getD (if y = k then 1 else 2) 0 = z := by
  unfold pts
  by_cases e : y = k
  · rw [if_pos e, if_pos e]; rfl
  · rw [if_neg e, if_neg e]; rfl
theorem choices_ok {a : Abs} (g : Good a) (h : turn a = .second ∨ turn a = .first ∨ turn a = .owner ∨ turn a = .zero) : (mOf a).choices = choices a := by
  cases g with
  | cut => rcases h with h | h | h | h <;> cases h
  | trim => rcases h with h | h | h | h <;> cases h
  | second => rw [mOf_second]; rfl
  | @first n p q t k x h1 h2 h3 h4 h5 =>
    rw [mOf_first]
    exact (choices_first h4.k2 h5).symm
  | @took n p q t k x y h1 h2 h3 h4 h5 h6 h7 h8 =>
    rw [turn_took] at h
    split at h <;> rcases h with h | h | h | h <;> cases h
  | @owner n p q t c d k x y h1 h2 h3 h4 h5 h6 h7 h8 h9 h10 =>
    rw [mOf_owner h9]
    unfold choices
    rw [turn_owner h9]
    rfl
  | @zero n p q t c d k x y z h1 h2 h3 h4 h5 h6 h7 h8 h9 h10 h11 =>
    rw [mOf_zero h7 h8 h9]
    unfold choices
    rw [turn_zero h9]
    show ALL.filter (· != (pts k y z 0 0).getD (if y = k then 1 else 2) 0) = _
    rw [pts_at]
    exact (choices_zero h11).symm
  | @done n p q t c d k x y z v h1 h2 h3 h4 h5 h6 h7 h8 h9 h10 h11 h12 h13 =>
    rw [turn_done h9] at h
    rcases h with h | h | h | h <;> cases h
end Ck

namespace Ck
open Kv204
section
variable {n : Nat} {p q t c d : At} {k x y z v : Nat}
theorem P3_trim (hk : k ≤ 2) : (W3 n p q).set k (((W3 n p q).getD k NOS).1, t) = P3 n p q t k ∧ ((W3 n p q).getD k NOS) = whole (cell2 n p q) k := by
  rcases le2 hk with rfl | rfl | rfl <;> exact ⟨rfl, rfl⟩
theorem third_comm (a b : Nat) (ha : a ≤ 2) (hb : b ≤ 2) : 3 - a - b = third b a := by unfold third; omega
end
/-- what is said: the object's fields go as the specification's state does -/
theorem say_ok {a : Abs} (g : Good a) (ho : turn a ≠ .over) (t' : Told) :
    ((mOf a).maySay t' = false ∧ say a (wordOf a t') = none) ∨ ((mOf a).maySay t' = true ∧ ∃ b, say a (wordOf a t') = some b ∧ Good b ∧ mOf b = (mOf a).said t') := by
  cases g with
  | @cut n h1 h2 =>
    have e0 : (mOf { cells := n }).maySay t' = rightTwo (NO, (n, 1)) 4000 t'.p t'.q := cut_same n _ _ _ _
    have e1 : say { cells := n } (wordOf { cells := n } t') = if rightTwo (NO, (n, 1)) 4000 t'.p t'.q = true then some { cells := n, cuts := some (t'.p, t'.q) } else none := rfl
    rw [e0, e1]
    cases hc : rightTwo (NO, (n, 1)) 4000 t'.p t'.q with
    | false => exact .inl ⟨rfl, rfl⟩
    | true => exact .inr ⟨rfl, _, rfl, .trim h1 h2 (rightTwo_iff.mp hc), rfl⟩
  | @trim n p q h1 h2 h3 =>
    by_cases hk : t'.which ≤ 2
    · have ew : (mOf (cell2 n p q)).piece t'.which = whole (cell2 n p q) t'.which := (P3_trim (n := n) (p := p) (q := q) (t := t'.p) hk).2
      have e0 : (mOf (cell2 n p q)).maySay t' = (decide (t'.which ≤ 2) && isAt t'.p && le (whole (cell2 n p q) t'.which).1 t'.p && le t'.p (whole (cell2 n p q) t'.which).2 && decide (t'.p.2 ≤ TRIM)) := by
        rw [← trim_same, ← ew]
        rfl
      have e1 : say (cell2 n p q) (wordOf (cell2 n p q) t') = if (decide (t'.which ≤ 2) && isAt t'.p && le (whole (cell2 n p q) t'.which).1 t'.p && le t'.p (whole (cell2 n p q) t'.which).2 && decide (t'.p.2 ≤ TRIM)) = true then some { cells := n, cuts := some (p, q), trim := some (t'.which, t'.p) } else none := rfl
      rw [e0, e1]
      cases hc : (decide (t'.which ≤ 2) && isAt t'.p && le (whole (cell2 n p q) t'.which).1 t'.p && le t'.p (whole (cell2 n p q) t'.which).2 && decide (t'.p.2 ≤ TRIM)) with
      | false => exact .inl ⟨rfl, rfl⟩
      | true =>
        refine .inr ⟨rfl, _, rfl, .second h1 h2 h3 (trm_iff.mp hc), ?_⟩
        rw [mOf_second, mOf_trim]
        obtain ⟨e2, e3⟩ := P3_trim (n := n) (p := p) (q := q) (t := t'.p) hk
        show _ = (⟨n, 2, (W3 n p q).set t'.which (((W3 n p q).getD t'.which NOS).1, t'.p), [0, 0, 0], t'.which, (t'.p, ((W3 n p q).getD t'.which NOS).2), [], [0, 0, 0]⟩ : M)
        rw [e2, e3]
    · refine .inl ⟨?_, ?_⟩
      · show (decide (t'.which ≤ 2) && _) = false
        rw [decide_eq_false hk]; rfl
      · show (if (decide (t'.which ≤ 2) && isAt t'.p && le (whole (cell2 n p q) t'.which).1 t'.p && le t'.p (whole (cell2 n p q) t'.which).2 && decide (t'.p.2 ≤ TRIM)) = true then some _ else none) = none
        rw [decide_eq_false hk]
        rfl
  | @second n p q t k h1 h2 h3 h4 =>
    have e0 : (mOf { cells := n, cuts := some (p, q), trim := some (k, t) }).maySay t' = ALL.contains t'.which := by rw [mOf_second]; rfl
    have e1 : say { cells := n, cuts := some (p, q), trim := some (k, t) } (wordOf { cells := n, cuts := some (p, q), trim := some (k, t) } t') = if ALL.contains t'.which = true then some { cells := n, cuts := some (p, q), trim := some (k, t), took2 := some t'.which } else none := rfl
    rw [e0, e1]
    cases hc : ALL.contains t'.which with
    | false => exact .inl ⟨rfl, rfl⟩
    | true =>
      have hx : t'.which ≤ 2 := by
        have := List.contains_iff_mem.mp hc
        simp [ALL] at this
        omega
      refine .inr ⟨rfl, _, rfl, .first h1 h2 h3 h4 hx, ?_⟩
      rw [mOf_first, mOf_second]
      rfl
  | @first n p q t k x h1 h2 h3 h4 h5 =>
    have hch := choices_ok (.first h1 h2 h3 h4 h5) (.inr (.inl rfl))
    have e0 : (mOf { cells := n, cuts := some (p, q), trim := some (k, t), took2 := some x }).maySay t' = (choices { cells := n, cuts := some (p, q), trim := some (k, t), took2 := some x }).contains t'.which := by rw [← hch, mOf_first]; rfl
    have e1 : say { cells := n, cuts := some (p, q), trim := some (k, t), took2 := some x } (wordOf { cells := n, cuts := some (p, q), trim := some (k, t), took2 := some x } t') = if (choices { cells := n, cuts := some (p, q), trim := some (k, t), took2 := some x }).contains t'.which = true then some (A3 n p q t k x t'.which) else none := rfl
    rw [e0, e1]
    cases hc : (choices { cells := n, cuts := some (p, q), trim := some (k, t), took2 := some x }).contains t'.which with
    | false => exact .inl ⟨rfl, rfl⟩
    | true =>
      have hm : t'.which ∈ (mOf { cells := n, cuts := some (p, q), trim := some (k, t), took2 := some x }).choices := by rw [hch]; exact List.contains_iff_mem.mp hc
      rw [mOf_first] at hm
      have hm : t'.which ∈ if x ≠ k then [k] else ALL.filter (· != k) := hm
      have hy : t'.which ≤ 2 ∧ t'.which ≠ x ∧ (x ≠ k → t'.which = k) := by
        have hk := h4.k2
        by_cases e : x = k
        · rw [if_neg (by simp [e])] at hm
          simp [ALL] at hm
          refine ⟨by omega, by omega, fun h => absurd e h⟩
        · rw [if_pos e] at hm
          simp at hm
          refine ⟨by omega, fun z => e (by omega), fun _ => hm⟩
      refine .inr ⟨rfl, _, rfl, .took h1 h2 h3 h4 h5 hy.1 hy.2.1 hy.2.2, ?_⟩
      have e3 : (mOf { cells := n, cuts := some (p, q), trim := some (k, t), took2 := some x }).said t' = M.fin ⟨n, 4, P3 n p q t k, [third x t'.which, t'.which, x], k, (t, (whole (cell2 n p q) k).2), [], [0, 0, 0]⟩ := by
        rw [mOf_first]
        show M.fin ⟨n, 4, P3 n p q t k, [3 - t'.which - x, t'.which, x], k, (t, (whole (cell2 n p q) k).2), [], [0, 0, 0]⟩ = _
        rw [third_comm _ _ hy.1 h5]
      rw [e3]
      by_cases e : t = (whole (cell2 n p q) k).2
      · rw [mOf_took2 e]
        unfold M.fin
        rw [if_pos ⟨rfl, e⟩]
        rfl
      · rw [mOf_took1 e]
        unfold M.fin
        rw [if_neg (fun z => e z.2)]
  | @took n p q t k x y h1 h2 h3 h4 h5 h6 h7 h8 =>
    by_cases e : t = (whole (cell2 n p q) k).2
    · exact absurd (by rw [turn_took, if_pos e]) ho
    · have et : turn (A3 n p q t k x y) = .part := by rw [turn_took, if_neg e]
      have e0 : (mOf (A3 n p q t k x y)).maySay t' = rightTwo (t, (whole (cell2 n p q) k).2) (2 ^ 58) t'.p t'.q := by
        rw [mOf_took1 e]
        exact cut_same n _ _ _ _
      have ew : wordOf (A3 n p q t k x y) t' = .two t'.p t'.q := by unfold wordOf; rw [et]
      have e1 : say (A3 n p q t k x y) (.two t'.p t'.q) = if rightTwo (t, (whole (cell2 n p q) k).2) (2 ^ 58) t'.p t'.q = true then some (A4 n p q t k x y t'.p t'.q) else none := by
        unfold say
        rw [et]
        rfl
      rw [e0, ew, e1]
      cases hc : rightTwo (t, (whole (cell2 n p q) k).2) (2 ^ 58) t'.p t'.q with
      | false => exact .inl ⟨rfl, rfl⟩
      | true =>
        refine .inr ⟨rfl, _, rfl, .owner h1 h2 h3 h4 h5 h6 h7 h8 e (rightTwo_iff.mp hc), ?_⟩
        rw [mOf_owner e, mOf_took1 e]
        rfl
  | @owner n p q t c d k x y h1 h2 h3 h4 h5 h6 h7 h8 h9 h10 =>
    have et : turn (A4 n p q t k x y c d) = .owner := turn_owner h9
    have e0 : (mOf (A4 n p q t k x y c d)).maySay t' = ALL.contains t'.which := by rw [mOf_owner h9]; rfl
    have ew : wordOf (A4 n p q t k x y c d) t' = .take t'.which := by unfold wordOf; rw [et]
    have ec : choices (A4 n p q t k x y c d) = ALL := by unfold choices; rw [et]; rfl
    have e1 : say (A4 n p q t k x y c d) (.take t'.which) = if ALL.contains t'.which = true then some (A5 n p q t k x y c d t'.which) else none := by
      unfold say
      rw [et]
      show (if (choices (A4 n p q t k x y c d)).contains t'.which = true then some (A5 n p q t k x y c d t'.which) else none) = _
      rw [ec]
    rw [e0, ew, e1]
    cases hc : ALL.contains t'.which with
    | false => exact .inl ⟨rfl, rfl⟩
    | true =>
      have hx : t'.which ≤ 2 := by
        have := List.contains_iff_mem.mp hc
        simp [ALL] at this
        omega
      refine .inr ⟨rfl, _, rfl, .zero h1 h2 h3 h4 h5 h6 h7 h8 h9 h10 hx, ?_⟩
      rw [mOf_zero h7 h8 h9, mOf_owner h9]
      show _ = (⟨n, 6, P3 n p q t k, [third x y, y, x], k, (t, (whole (cell2 n p q) k).2), three (t, (whole (cell2 n p q) k).2) c d, [0, 0, 0].set (if y = k then 1 else 2) t'.which⟩ : M)
      unfold pts
      by_cases e : y = k
      · rw [if_pos e, if_pos e]; rfl
      · rw [if_neg e, if_neg e]; rfl
  | @zero n p q t c d k x y z h1 h2 h3 h4 h5 h6 h7 h8 h9 h10 h11 =>
    have et : turn (A5 n p q t k x y c d z) = .zero := turn_zero h9
    have hch := choices_ok (.zero h1 h2 h3 h4 h5 h6 h7 h8 h9 h10 h11) (.inr (.inr (.inr et)))
    have hcm : (mOf (A5 n p q t k x y c d z)).choices = ALL.filter (· != z) := by
      rw [mOf_zero h7 h8 h9]
      show ALL.filter (· != (pts k y z 0 0).getD (if y = k then 1 else 2) 0) = _
      rw [pts_at]
    have e0 : (mOf (A5 n p q t k x y c d z)).maySay t' = (ALL.filter (· != z)).contains t'.which := by
      rw [← hcm, mOf_zero h7 h8 h9]; rfl
    have ew : wordOf (A5 n p q t k x y c d z) t' = .take t'.which := by unfold wordOf; rw [et]
    have e1 : say (A5 n p q t k x y c d z) (.take t'.which) = if (ALL.filter (· != z)).contains t'.which = true then some (A6 n p q t k x y c d z t'.which) else none := by
      unfold say
      rw [et]
      show (if (choices (A5 n p q t k x y c d z)).contains t'.which = true then some (A6 n p q t k x y c d z t'.which) else none) = _
      rw [← hch, hcm]
    rw [e0, ew, e1]
    cases hc : (ALL.filter (· != z)).contains t'.which with
    | false => exact .inl ⟨rfl, rfl⟩
    | true =>
      have hx : t'.which ≤ 2 ∧ t'.which ≠ z := by
        have := List.contains_iff_mem.mp hc
        simp [ALL] at this
        omega
      refine .inr ⟨rfl, _, rfl, .done h1 h2 h3 h4 h5 h6 h7 h8 h9 h10 h11 hx.1 hx.2, ?_⟩
      rw [mOf_done h7 h8 h9, mOf_zero h7 h8 h9]
      show _ = (⟨n, 7, P3 n p q t k, [third x y, y, x], k, (t, (whole (cell2 n p q) k).2), three (t, (whole (cell2 n p q) k).2) c d, ((pts k y z 0 0).set 0 t'.which).set (3 - if y = k then 1 else 2) (3 - t'.which - (pts k y z 0 0).getD (if y = k then 1 else 2) 0)⟩ : M)
      rw [pts_at, third_comm _ _ hx.1 h11]
      unfold pts
      by_cases e : y = k
      · rw [if_pos e, if_pos e]; rw [if_pos e]; rfl
      · rw [if_neg e, if_neg e]; rw [if_neg e]; rfl
  | @done n p q t c d k x y z v h1 h2 h3 h4 h5 h6 h7 h8 h9 h10 h11 h12 h13 => exact absurd (turn_done h9) ho
/-! ### shares -/
theorem share_ok {a : Abs} (g : Good a) (ho : turn a = .over) {i : Nat} (hi : i ≤ 2) : (mOf a).share i = share a i := by
  cases g with
  | cut => cases ho
  | trim => cases ho
  | second => cases ho
  | first => cases ho
  | @took n p q t k x y h1 h2 h3 h4 h5 h6 h7 h8 =>
    by_cases e : t = (whole (cell2 n p q) k).2
    · rw [mOf_took2 e]
      have h0 : third x y ≤ 2 := by unfold third; omega
      rcases le2 hi with rfl | rfl | rfl
      · show ((P3 n p q t k).getD (third x y) NOS, _) = (piece (A3 n p q t k x y) (third x y), _)
        rcases le2 h0 with e1 | e1 | e1 <;> rw [e1] <;> rfl
      · show ((P3 n p q t k).getD y NOS, _) = (piece (A3 n p q t k x y) y, _)
        rcases le2 h6 with rfl | rfl | rfl <;> rfl
      · show ((P3 n p q t k).getD x NOS, _) = (piece (A3 n p q t k x y) x, _)
        rcases le2 h5 with rfl | rfl | rfl <;> rfl
    · rw [turn_took, if_neg e] at ho
      cases ho
  | @owner n p q t c d k x y h1 h2 h3 h4 h5 h6 h7 h8 h9 h10 => rw [turn_owner h9] at ho; cases ho
  | @zero n p q t c d k x y z h1 h2 h3 h4 h5 h6 h7 h8 h9 h10 h11 => rw [turn_zero h9] at ho; cases ho
  | @done n p q t c d k x y z v h1 h2 h3 h4 h5 h6 h7 h8 h9 h10 h11 h12 h13 =>
    rw [mOf_done h7 h8 h9]
    have h0 : third x y ≤ 2 := by unfold third; omega
    have h00 : third z v ≤ 2 := by unfold third; omega
    have pie : ∀ j, j ≤ 2 → (P3 n p q t k).getD j NOS = piece (A6 n p q t k x y c d z v) j := fun j hj => by
      rcases le2 hj with rfl | rfl | rfl <;> rfl
    have par : ∀ j, j ≤ 2 → (three (t, (whole (cell2 n p q) k).2) c d).getD j NOS = part (A6 n p q t k x y c d z v) j := fun j hj => by
      rcases le2 hj with rfl | rfl | rfl <;> rfl
    have ow : Kv204.owner (A6 n p q t k x y c d z v) = if y = k then 1 else 2 := own_is h7 h8 rfl rfl
    have key : ∀ j l, j ≤ 2 → l ≤ 2 → pieceOf (A6 n p q t k x y c d z v) i = j → partOf (A6 n p q t k x y c d z v) i = l → [third x y, y, x].getD i 0 = j → (pts k y z (third z v) v).getD i 0 = l →
        M.share ⟨n, 7, P3 n p q t k, [third x y, y, x], k, (t, (whole (cell2 n p q) k).2), three (t, (whole (cell2 n p q) k).2) c d, pts k y z (third z v) v⟩ i = share (A6 n p q t k x y c d z v) i := by
      intro j l hj hl e1 e2 e3 e4
      show ((P3 n p q t k).getD ([third x y, y, x].getD i 0) NOS, (three (t, (whole (cell2 n p q) k).2) c d).getD ((pts k y z (third z v) v).getD i 0) NOS) = (piece (A6 n p q t k x y c d z v) (pieceOf (A6 n p q t k x y c d z v) i), part (A6 n p q t k x y c d z v) (partOf (A6 n p q t k x y c d z v) i))
      rw [e1, e2, e3, e4, pie j hj, par l hl]
    rcases le2 hi with rfl | rfl | rfl
    · refine key (third x y) v h0 h12 rfl rfl rfl ?_
      unfold pts
      by_cases e : y = k
      · rw [if_pos e]; rfl
      · rw [if_neg e]; rfl
    · by_cases e : y = k
      · refine key y z h6 h11 rfl ?_ rfl ?_
        · show (if 1 = Kv204.owner (A6 n p q t k x y c d z v) then z else third z v) = z
          rw [ow, if_pos e]; rfl
        · unfold pts; rw [if_pos e]; rfl
      · refine key y (third z v) h6 h00 rfl ?_ rfl ?_
        · show (if 1 = Kv204.owner (A6 n p q t k x y c d z v) then z else third z v) = third z v
          rw [ow, if_neg e]; rfl
        · unfold pts; rw [if_neg e]; rfl
    · by_cases e : y = k
      · refine key x (third z v) h5 h00 rfl ?_ rfl ?_
        · show (if 2 = Kv204.owner (A6 n p q t k x y c d z v) then z else third z v) = third z v
          rw [ow, if_pos e]; rfl
        · unfold pts; rw [if_pos e]; rfl
      · refine key x z h5 h11 rfl ?_ rfl ?_
        · show (if 2 = Kv204.owner (A6 n p q t k x y c d z v) then z else third z v) = z
          rw [ow, if_neg e]; rfl
        · unfold pts; rw [if_neg e]; rfl
end Ck

namespace Ck
open Kv204
theorem best_congrL {v v' : Nat → At} {l : List Nat} (e : ∀ k ∈ l, v k = v' k) : best v l = best v' l := by
  cases l with
  | nil => rfl
  | cons h t => exact best_congr e
theorem all2 {k : Nat} : k ∈ ALL ↔ k ≤ 2 := by
  simp [ALL]
  omega
theorem choices_le {m : M} (ht : m.trimmed ≤ 2) {k : Nat} (h : k ∈ m.choices) : k ≤ 2 := by
  unfold M.choices at h
  split at h
  · split at h
    · rw [List.mem_singleton] at h
      omega
    · exact all2.mp (List.mem_filter.mp h).1
  · split at h
    · exact all2.mp (List.mem_filter.mp h).1
    · exact all2.mp h
/-! ### what the fields keep -/
structure Ok (m : M) : Prop where
  n1 : 1 ≤ m.cells
  n64 : m.cells ≤ 64
  st : m.stage ≤ 7
  pl : m.stage ≠ 0 → m.pieces.length = 3
  po : m.po.length = 3
  pt : m.pt.length = 3
  pole : ∀ x ∈ m.po, x ≤ 2
  ptle : ∀ x ∈ m.pt, x ≤ 2
  tr : m.trimmed ≤ 2
  pcs : ∀ s ∈ m.pieces, OkS m.cells s
  trm : OkS m.cells m.trimmings
  prt : ∀ s ∈ m.parts, OkS m.cells s
  prl : 5 ≤ m.stage → m.parts.length = 3
theorem okP_no (n : Nat) : OkP n NO := ⟨rfl, by show 0 ≤ _; omega, by show 1 ≤ _; decide⟩
theorem okS_no (n : Nat) : OkS n NOS := ⟨okP_no n, okP_no n, Le.refl _⟩
theorem okP_end {n : Nat} : OkP n (n, 1) := ⟨isAt_iff.mpr ⟨Nat.le_refl _, Nat.gcd_one_right _⟩, by show n ≤ n * 1; omega, by show 1 ≤ _; decide⟩
theorem okS_cake (m : M) : OkS m.cells m.cake := ⟨okP_no _, okP_end, by show 0 * 1 ≤ m.cells * 1; omega⟩
section
variable {n : Nat} {p q t c d : At} {k x y z v : Nat}
theorem two_ok {s : Stretch} {most : Nat} (hs : OkS n s) (hm : most ≤ 2 ^ 58) (h : Two n s most p q) : OkS n (s.1, p) ∧ OkS n (p, q) ∧ OkS n (q, s.2) := by
  have up : ∀ {r : At}, isAt r = true → r.2 ≤ most → Le r s.2 → OkP n r := fun {r} h1 h2 h3 => by
    refine ⟨h1, ?_, by omega⟩
    have h4 : Le r (n, 1) := Le.trans hs.b.pos h3 (by show s.2.1 * 1 ≤ n * s.2.2; have := hs.b.le; omega)
    have h5 : r.1 * 1 ≤ n * r.2 := h4
    omega
  have op : OkP n p := up h.p0 h.pm (Le.trans (isAt_pos h.q0) h.b h.c)
  have oq : OkP n q := up h.q0 h.qm h.c
  exact ⟨⟨hs.a, op, h.a⟩, ⟨op, oq, h.b⟩, ⟨oq, hs.b, h.c⟩⟩
theorem whole_ok (h : Two n (NO, (n, 1)) 4000 p q) (k : Nat) : OkS n (whole (cell2 n p q) k) := by
  obtain ⟨a, b, c⟩ := two_ok (s := (NO, (n, 1))) ⟨okP_no n, okP_end, by show 0 * 1 ≤ n * 1; omega⟩ (by decide) h
  show OkS n (if k = 0 then ((0, 1), p) else if k = 1 then (p, q) else (q, (n, 1)))
  split
  · exact a
  · split
    · exact b
    · exact c
theorem w3_ok (h : Two n (NO, (n, 1)) 4000 p q) : ∀ s ∈ W3 n p q, OkS n s := by
  intro s hs
  simp [W3] at hs
  rcases hs with rfl | rfl | rfl
  · exact whole_ok h 0
  · exact whole_ok h 1
  · exact whole_ok h 2
theorem trm_ok {s : Stretch} (hs : OkS n s) (h : Trm s k t) : OkS n (s.1, t) ∧ OkS n (t, s.2) := by
  have ot : OkP n t := by
    refine ⟨h.t0, ?_, Nat.le_trans h.tm (by decide)⟩
    have h4 : Le t (n, 1) := Le.trans hs.b.pos h.b (by show s.2.1 * 1 ≤ n * s.2.2; have := hs.b.le; omega)
    have h5 : t.1 * 1 ≤ n * t.2 := h4
    omega
  exact ⟨⟨hs.a, ot, h.a⟩, ⟨ot, hs.b, h.b⟩⟩
theorem p3_ok (h : Two n (NO, (n, 1)) 4000 p q) (ht : Trm (whole (cell2 n p q) k) k t) : ∀ s ∈ P3 n p q t k, OkS n s := by
  have one : ∀ j, OkS n (piece { cells := n, cuts := some (p, q), trim := some (k, t) } j) := fun j => by
    show OkS n (if j = k then ((whole (cell2 n p q) j).1, t) else whole (cell2 n p q) j)
    split
    · rename_i e
      subst e
      exact (trm_ok (whole_ok h _) ht).1
    · exact whole_ok h j
  intro s hs
  unfold P3 at hs
  rcases List.mem_cons.mp hs with rfl | hs
  · exact one 0
  rcases List.mem_cons.mp hs with rfl | hs
  · exact one 1
  rcases List.mem_cons.mp hs with rfl | hs
  · exact one 2
  cases hs
theorem three_ok {s : Stretch} {most : Nat} (hs : OkS n s) (hm : most ≤ 2 ^ 58) (h : Two n s most c d) : ∀ r ∈ three s c d, OkS n r := by
  obtain ⟨a, b, e⟩ := two_ok hs hm h
  intro r hr
  unfold three at hr
  rcases List.mem_cons.mp hr with rfl | hr
  · exact a
  rcases List.mem_cons.mp hr with rfl | hr
  · exact b
  rcases List.mem_cons.mp hr with rfl | hr
  · exact e
  cases hr
theorem po_le (hx : x ≤ 2) (hy : y ≤ 2) (h : y ≠ x) : ∀ j ∈ [third x y, y, x], j ≤ 2 := by
  intro j hj
  simp [third] at hj
  omega
theorem pts_ok {u : Nat} (hz : z ≤ 2) (hu : u ≤ 2) (hv : v ≤ 2) : (pts k y z u v).length = 3 ∧ ∀ j ∈ pts k y z u v, j ≤ 2 := by
  unfold pts
  split
  · refine ⟨rfl, fun j hj => ?_⟩
    simp at hj
    omega
  · refine ⟨rfl, fun j hj => ?_⟩
    simp at hj
    omega
end
theorem zeros_le : ∀ x ∈ [0, 0, 0], x ≤ 2 := by simp
theorem ok_of {a : Abs} (g : Good a) : Ok (mOf a) := by
  cases g with
  | @cut n h1 h2 => exact ⟨h1, h2, (by show 0 ≤ 7; decide), fun h => absurd rfl h, rfl, rfl, zeros_le, zeros_le, Nat.zero_le _, (fun s hs => nomatch hs), okS_no n, (fun s hs => nomatch hs), fun h => absurd h (by show ¬ 5 ≤ 0; decide)⟩
  | @trim n p q h1 h2 h3 => exact ⟨h1, h2, (by show 1 ≤ 7; decide), fun _ => rfl, rfl, rfl, zeros_le, zeros_le, Nat.zero_le _, w3_ok h3, okS_no n, (fun s hs => nomatch hs), fun h => absurd h (by show ¬ 5 ≤ 1; decide)⟩
  | @second n p q t k h1 h2 h3 h4 =>
    rw [mOf_second]
    exact ⟨h1, h2, (by show 2 ≤ 7; decide), fun _ => rfl, rfl, rfl, zeros_le, zeros_le, h4.k2, p3_ok h3 h4, (trm_ok (whole_ok h3 _) h4).2, (fun s hs => nomatch hs), fun h => absurd h (by show ¬ 5 ≤ 2; decide)⟩
  | @first n p q t k x h1 h2 h3 h4 h5 =>
    rw [mOf_first]
    exact ⟨h1, h2, (by show 3 ≤ 7; decide), fun _ => rfl, rfl, rfl, by show ∀ j ∈ [0, 0, x], j ≤ 2; simp; exact h5, zeros_le, h4.k2, p3_ok h3 h4, (trm_ok (whole_ok h3 _) h4).2, (fun s hs => nomatch hs), fun h => absurd h (by show ¬ 5 ≤ 3; decide)⟩
  | @took n p q t k x y h1 h2 h3 h4 h5 h6 h7 h8 =>
    have tk := (trm_ok (whole_ok h3 _) h4).2
    by_cases e : t = (whole (cell2 n p q) k).2
    · rw [mOf_took2 e]
      refine ⟨h1, h2, (by show 7 ≤ 7; decide), fun _ => rfl, rfl, rfl, po_le h5 h6 h7, zeros_le, h4.k2, p3_ok h3 h4, tk, fun s hs => ?_, fun _ => rfl⟩
      rcases List.mem_cons.mp hs with rfl | hs
      · exact tk
      rcases List.mem_cons.mp hs with rfl | hs
      · exact tk
      rcases List.mem_cons.mp hs with rfl | hs
      · exact tk
      cases hs
    · rw [mOf_took1 e]
      exact ⟨h1, h2, (by show 4 ≤ 7; decide), fun _ => rfl, rfl, rfl, po_le h5 h6 h7, zeros_le, h4.k2, p3_ok h3 h4, tk, (fun s hs => nomatch hs), fun h => absurd h (by show ¬ 5 ≤ 4; decide)⟩
  | @owner n p q t c d k x y h1 h2 h3 h4 h5 h6 h7 h8 h9 h10 =>
    have tk := (trm_ok (whole_ok h3 _) h4).2
    rw [mOf_owner h9]
    exact ⟨h1, h2, (by show 5 ≤ 7; decide), fun _ => rfl, rfl, rfl, po_le h5 h6 h7, zeros_le, h4.k2, p3_ok h3 h4, tk, three_ok tk (Nat.le_refl _) h10, fun _ => rfl⟩
  | @zero n p q t c d k x y z h1 h2 h3 h4 h5 h6 h7 h8 h9 h10 h11 =>
    have tk := (trm_ok (whole_ok h3 _) h4).2
    rw [mOf_zero h7 h8 h9]
    have hp := pts_ok (k := k) (y := y) (u := 0) (v := 0) h11 (by decide) (by decide)
    exact ⟨h1, h2, (by show 6 ≤ 7; decide), fun _ => rfl, rfl, hp.1, po_le h5 h6 h7, hp.2, h4.k2, p3_ok h3 h4, tk, three_ok tk (Nat.le_refl _) h10, fun _ => rfl⟩
  | @done n p q t c d k x y z v h1 h2 h3 h4 h5 h6 h7 h8 h9 h10 h11 h12 h13 =>
    have tk := (trm_ok (whole_ok h3 _) h4).2
    rw [mOf_done h7 h8 h9]
    have hp := pts_ok (k := k) (y := y) (u := third z v) (v := v) h11 (by unfold third; omega) h12
    exact ⟨h1, h2, (by show 7 ≤ 7; decide), fun _ => rfl, rfl, hp.1, po_le h5 h6 h7, hp.2, h4.k2, p3_ok h3 h4, tk, three_ok tk (Nat.le_refl _) h10, fun _ => rfl⟩
/-! ### the advice -/
theorem p3_piece {n : Nat} {p q t : At} {k j : Nat} {a : Abs} (hp : ∀ j, piece { cells := n, cuts := some (p, q), trim := some (k, t) } j = piece a j) (hj : j ≤ 2) : (P3 n p q t k).getD j NOS = piece a j := by
  rw [← hp]
  rcases le2 hj with rfl | rfl | rfl <;> rfl
theorem adv_take {a : Abs} {m : M} {w : Worth} {f : Nat → Stretch} (hc : m.choices = choices a) (h0 : m.stage ≠ 0) (h1 : m.stage ≠ 1) (h4 : m.stage ≠ 4) (ht : m.trimmed ≤ 2)
    (hf : ∀ j, j ≤ 2 → (if m.stage < 4 then m.piece j else m.part j) = f j) (ha : advise w a = .take (best (fun k => w.of_ (f k)) (choices a))) : m.advise w = toldOf (advise w a) := by
  rw [ha]
  unfold M.advise
  rw [if_neg h0, if_neg h4]
  simp only [h1, if_false]
  have e : best (fun j => w.of_ (if m.stage < 4 then m.piece j else m.part j)) m.choices = best (fun k => w.of_ (f k)) (choices a) := by
    rw [hc]
    refine best_congrL fun k hk => ?_
    rw [hf k (choices_le ht (by rw [hc]; exact hk))]
  rw [e]
  rfl
theorem advise_ok {a : Abs} (g : Good a) (ho : turn a ≠ .over) (w : Worth) : (mOf a).advise w = toldOf (advise w a) := by
  cases g with
  | @cut n h1 h2 => rfl
  | @trim n p q h1 h2 h3 =>
    have e : ∀ j, j ≤ 2 → (W3 n p q).getD j NOS = whole (cell2 n p q) j := fun j hj => by
      rcases le2 hj with rfl | rfl | rfl <;> rfl
    have eb : best (fun j => w.of_ ((W3 n p q).getD j NOS)) ALL = best (fun j => w.of_ (whole (cell2 n p q) j)) [0, 1, 2] :=
      best_congrL fun k hk => by rw [e k (all2.mp hk)]
    have hb : best (fun j => w.of_ (whole (cell2 n p q) j)) [0, 1, 2] ≤ 2 := all2.mp best_mem
    have er : ∀ k, best (fun j => w.of_ ((W3 n p q).getD j NOS)) (ALL.filter (· != k)) = best (fun j => w.of_ (whole (cell2 n p q) j)) ([0, 1, 2].filter (· != k)) := fun k =>
      best_congrL fun j hj => by rw [e j (all2.mp (List.mem_filter.mp hj).1)]
    have hr : ∀ k, k ≤ 2 → best (fun j => w.of_ (whole (cell2 n p q) j)) ([0, 1, 2].filter (· != k)) ≤ 2 := fun k hk => by
      have : best (fun j => w.of_ (whole (cell2 n p q) j)) ([0, 1, 2].filter (· != k)) ∈ ([0, 1, 2].filter (· != k)) := by
        rcases le2 hk with rfl | rfl | rfl <;> exact best_mem
      exact all2.mp (List.mem_filter.mp this).1
    show M.advise ⟨n, 1, W3 n p q, [0, 0, 0], 0, NOS, [], [0, 0, 0]⟩ w = _
    unfold M.advise
    show (⟨best (fun j => w.of_ ((W3 n p q).getD j NOS)) ALL, from_ w ((W3 n p q).getD (best (fun j => w.of_ ((W3 n p q).getD j NOS)) ALL) NOS).1 (plus (w.mark ((W3 n p q).getD (best (fun j => w.of_ ((W3 n p q).getD j NOS)) ALL) NOS).1)
      (w.of_ ((W3 n p q).getD (best (fun j => w.of_ ((W3 n p q).getD j NOS)) (ALL.filter (· != best (fun j => w.of_ ((W3 n p q).getD j NOS)) ALL))) NOS))), NO⟩ : Told) = _
    rw [eb, er, e _ hb, e _ (hr _ hb)]
    rfl
  | @second n p q t k h1 h2 h3 h4 =>
    have g := Good.second h1 h2 h3 h4
    have hc := choices_ok g (.inl rfl)
    refine adv_take (f := piece { cells := n, cuts := some (p, q), trim := some (k, t) }) hc ?_ ?_ ?_ (ok_of g).tr (fun j hj => ?_) rfl
    · rw [mOf_second]; exact Nat.ne_of_beq_eq_false rfl
    · rw [mOf_second]; exact Nat.ne_of_beq_eq_false rfl
    · rw [mOf_second]; exact Nat.ne_of_beq_eq_false rfl
    · rw [mOf_second]
      exact p3_piece (fun _ => rfl) hj
  | @first n p q t k x h1 h2 h3 h4 h5 =>
    have g := Good.first h1 h2 h3 h4 h5
    have hc := choices_ok g (.inr (.inl rfl))
    refine adv_take (f := piece { cells := n, cuts := some (p, q), trim := some (k, t), took2 := some x }) hc ?_ ?_ ?_ (ok_of g).tr (fun j hj => ?_) rfl
    · rw [mOf_first]; exact Nat.ne_of_beq_eq_false rfl
    · rw [mOf_first]; exact Nat.ne_of_beq_eq_false rfl
    · rw [mOf_first]; exact Nat.ne_of_beq_eq_false rfl
    · rw [mOf_first]
      exact p3_piece (fun _ => rfl) hj
  | @took n p q t k x y h1 h2 h3 h4 h5 h6 h7 h8 =>
    by_cases e : t = (whole (cell2 n p q) k).2
    · exact absurd (by rw [turn_took, if_pos e]) ho
    · have et : turn (A3 n p q t k x y) = .part := by rw [turn_took, if_neg e]
      have ea : advise w (A3 n p q t k x y) = .two (w.thirds (t, (whole (cell2 n p q) k).2)).1 (w.thirds (t, (whole (cell2 n p q) k).2)).2 := by
        unfold advise
        rw [et]
        rfl
      rw [ea, mOf_took1 e]
      rfl
  | @owner n p q t c d k x y h1 h2 h3 h4 h5 h6 h7 h8 h9 h10 =>
    have g := Good.owner h1 h2 h3 h4 h5 h6 h7 h8 h9 h10
    have et : turn (A4 n p q t k x y c d) = .owner := turn_owner h9
    have hc := choices_ok g (.inr (.inr (.inl et)))
    refine adv_take (f := part (A4 n p q t k x y c d)) hc ?_ ?_ ?_ (ok_of g).tr (fun j hj => ?_) (by unfold advise; rw [et])
    · rw [mOf_owner h9]; exact Nat.ne_of_beq_eq_false rfl
    · rw [mOf_owner h9]; exact Nat.ne_of_beq_eq_false rfl
    · rw [mOf_owner h9]; exact Nat.ne_of_beq_eq_false rfl
    · rw [mOf_owner h9]
      rcases le2 hj with rfl | rfl | rfl <;> rfl
  | @zero n p q t c d k x y z h1 h2 h3 h4 h5 h6 h7 h8 h9 h10 h11 =>
    have g := Good.zero h1 h2 h3 h4 h5 h6 h7 h8 h9 h10 h11
    have et : turn (A5 n p q t k x y c d z) = .zero := turn_zero h9
    have hc := choices_ok g (.inr (.inr (.inr et)))
    refine adv_take (f := part (A5 n p q t k x y c d z)) hc ?_ ?_ ?_ (ok_of g).tr (fun j hj => ?_) (by unfold advise; rw [et])
    · rw [mOf_zero h7 h8 h9]; exact Nat.ne_of_beq_eq_false rfl
    · rw [mOf_zero h7 h8 h9]; exact Nat.ne_of_beq_eq_false rfl
    · rw [mOf_zero h7 h8 h9]; exact Nat.ne_of_beq_eq_false rfl
    · rw [mOf_zero h7 h8 h9]
      rcases le2 hj with rfl | rfl | rfl <;> rfl
  | @done n p q t c d k x y z v h1 h2 h3 h4 h5 h6 h7 h8 h9 h10 h11 h12 h13 => exact absurd (turn_done h9) ho
end Ck

namespace Ck
open Kv204
/-! ### one call of a line -/
/-- the numbers of one call, told as they are laid in the list -/
inductive Told1 : List Int → List (List Int) → Kv204.Call → Prop
  | start (n : Nat) : Told1 [0, (n : Int)] [[0, (n : Int)]] (.start n)
  | turn : Told1 [1] [[1]] .turn
  | say (k a b c d : Nat) : a < 2 ^ 64 → b < 2 ^ 64 → c < 2 ^ 64 → d < 2 ^ 64 → Told1 [2, (k : Int), (a : Int), (b : Int), (c : Int), (d : Int)] [[2, (k : Int), (a : Int), (b : Int), (c : Int), (d : Int)]] (.say ⟨k, (a, b), (c, d)⟩)
  | advise (w : List Nat) : (∀ x ∈ w, x < 65536) → Told1 (3 :: (w.length : Int) :: w.map Int.ofNat) [[3], w.map Int.ofNat] (.advise (if w.length ≤ CELLS then some w else none))
  | share (i : Nat) : Told1 [4, (i : Int)] [[4, (i : Int)]] (.share i)
theorem nat_of {z : Int} {b : Nat} (h : Kv204Neutral.natural z b = true) : ∃ n : Nat, z = (n : Int) := by
  unfold Kv204Neutral.natural at h
  rw [Bool.and_eq_true, decide_eq_true_iff] at h
  exact ⟨z.toNat, by omega⟩
theorem nat_of64 {z : Int} (h : Kv204Neutral.natural z 64 = true) : ∃ n : Nat, z = (n : Int) ∧ n < 2 ^ 64 := by
  unfold Kv204Neutral.natural at h
  rw [Bool.and_eq_true, decide_eq_true_iff, decide_eq_true_iff] at h
  exact ⟨z.toNat, by omega, by omega⟩
theorem nats_of : ∀ (l : List Int), (∀ z ∈ l, 0 ≤ z) → (Kv204Neutral.nats l).map Int.ofNat = l
  | [], _ => rfl
  | z :: l, h => by
    have h1 := h z (List.mem_cons_self ..)
    have h2 := nats_of l fun x hx => h x (List.mem_cons_of_mem _ hx)
    show Int.ofNat z.toNat :: (Kv204Neutral.nats l).map Int.ofNat = z :: l
    rw [h2]
    congr 1
    exact Int.toNat_of_nonneg h1
theorem callOf_of {l : List Int} {c : List (List Int)} {k : Kv204.Call} (h : Told1 l c k) : Kv204Neutral.callOf c = some k := by
  cases h with
  | start n => rfl
  | turn => rfl
  | say k a b c d _ _ _ _ => rfl
  | share i => rfl
  | advise w hw =>
    have e : Kv204Neutral.nats (w.map Int.ofNat) = w := by
      unfold Kv204Neutral.nats
      rw [List.map_map]
      exact (List.map_congr_left fun x _ => rfl).trans (List.map_id w)
    show some (Kv204.Call.advise (if (Kv204Neutral.nats (w.map Int.ofNat)).length ≤ CELLS then some (Kv204Neutral.nats (w.map Int.ofNat)) else none)) = _
    rw [e]
theorem parse {l t : List Int} {c : List (List Int)} (h : PyFlat.call PyKv204.shape l = some (c, t)) (ha : Kv204Neutral.askedOne (PyKv204.whole c) = true) :
    ∃ x k, l = x ++ t ∧ Told1 x (PyKv204.whole c) k := by
  have h1 : Kv204Neutral.asked1 (PyKv204.whole c) = true := by
    unfold Kv204Neutral.askedOne at ha
    rw [Bool.and_eq_true, Bool.and_eq_true, Bool.and_eq_true] at ha
    exact ha.1.1.1
  cases l with
  | nil => cases h
  | cons p r =>
    have h : (match PyKv204.shape p with
      | none => none
      | some (n, k) => if r.length < n then none else match PyFlat.rows k (r.drop n) with
        | none => none
        | some (xs, t) => some ((p :: r.take n) :: xs, t)) = some (c, t) := h
    unfold PyKv204.shape at h
    split at h
    · cases h
    · rename_i n k hs
      split at hs
      · rename_i e
        subst e
        cases hs
        split at h
        · cases h
        · rename_i hl
          match r, hl, h with
          | [], hl, _ => exact absurd (by decide) hl
          | a :: r, _, h =>
            cases h
            have h1 : Kv204Neutral.natural a 32 = true := h1
            obtain ⟨n, rfl⟩ := nat_of h1
            exact ⟨_, _, rfl, .start n⟩
      · split at hs
        · rename_i e
          subst e
          cases hs
          split at h
          · cases h
          · cases h
            exact ⟨_, _, rfl, .turn⟩
        · split at hs
          · rename_i e
            subst e
            cases hs
            split at h
            · cases h
            · rename_i hl
              match r, hl, h with
              | [], hl, _ => exact absurd (by decide) hl
              | [_], hl, _ => exact absurd (by simp) hl
              | [_, _], hl, _ => exact absurd (by simp) hl
              | [_, _, _], hl, _ => exact absurd (by simp) hl
              | [_, _, _, _], hl, _ => exact absurd (by simp) hl
              | a :: b :: c1 :: d :: e :: r, _, h =>
                cases h
                have h1 : (Kv204Neutral.natural a 32 && Kv204Neutral.natural b 64 && Kv204Neutral.natural c1 64 && Kv204Neutral.natural d 64 && Kv204Neutral.natural e 64) = true := h1
                simp only [Bool.and_eq_true] at h1
                obtain ⟨⟨⟨⟨h1, h2⟩, h3⟩, h4⟩, h5⟩ := h1
                obtain ⟨n1, rfl⟩ := nat_of h1
                obtain ⟨n2, rfl, b2⟩ := nat_of64 h2
                obtain ⟨n3, rfl, b3⟩ := nat_of64 h3
                obtain ⟨n4, rfl, b4⟩ := nat_of64 h4
                obtain ⟨n5, rfl, b5⟩ := nat_of64 h5
                exact ⟨_, _, rfl, .say n1 n2 n3 n4 n5 b2 b3 b4 b5⟩
          · split at hs
            · rename_i e
              subst e
              cases hs
              split at h
              · cases h
              · rename_i hl
                match r, h with
                | [], h => cases h
                | m :: r, h =>
                  have h : (match (match (if 0 ≤ m ∧ m.toNat ≤ r.length then some (r.take m.toNat, r.drop m.toNat) else none : Option (List Int × List Int)) with
                    | none => none
                    | some (x, s) => some ([x], s) : Option (List (List Int) × List Int)) with
                    | none => none
                    | some (xs, t) => some ((3 :: ([] : List Int)) :: xs, t)) = some (c, t) := h
                  split at h
                  · cases h
                  · rename_i xs t' e2
                    split at e2
                    · cases e2
                    · rename_i x s e3
                      split at e3
                      · rename_i hm
                        cases e3
                        cases e2
                        cases h
                        have h1 : ((r.take m.toNat).all (fun (z : Int) => Kv204Neutral.natural z 16) && Kv204Neutral.full [[3], r.take m.toNat]) = true := h1
                        rw [Bool.and_eq_true] at h1
                        have h2 : ∀ z ∈ r.take m.toNat, 0 ≤ z ∧ z < 65536 := fun z hz => by
                          have := List.all_eq_true.mp h1.1 z hz
                          unfold Kv204Neutral.natural at this
                          rw [Bool.and_eq_true, decide_eq_true_iff, decide_eq_true_iff] at this
                          exact ⟨this.1, by have := this.2; omega⟩
                        have e4 := nats_of _ fun z hz => (h2 z hz).1
                        have hlen : (Kv204Neutral.nats (r.take m.toNat)).length = m.toNat := by
                          unfold Kv204Neutral.nats
                          rw [List.length_map, List.length_take]
                          omega
                        have k := Told1.advise (Kv204Neutral.nats (r.take m.toNat)) fun x hx => by
                          unfold Kv204Neutral.nats at hx
                          obtain ⟨z, hz, rfl⟩ := List.mem_map.mp hx
                          have := h2 z hz
                          omega
                        rw [e4, hlen] at k
                        rw [Int.toNat_of_nonneg hm.1] at k
                        refine ⟨_, _, ?_, k⟩
                        show 3 :: m :: r = 3 :: m :: (r.take m.toNat ++ r.drop m.toNat)
                        rw [List.take_append_drop]
                      · cases e3
            · split at hs
              · rename_i e
                subst e
                cases hs
                split at h
                · cases h
                · rename_i hl
                  match r, hl, h with
                  | [], hl, _ => exact absurd (by decide) hl
                  | a :: r, _, h =>
                    cases h
                    have h1 : Kv204Neutral.natural a 32 = true := h1
                    obtain ⟨n, rfl⟩ := nat_of h1
                    exact ⟨_, _, rfl, .share n⟩
              · cases hs
/-! ### a line -/
open Kv204Neutral in
/-- what is left of a line, from a state -/
def tail_ (s : Kv204.State) (cs : List (List (List Int))) : List Int := PyFlat.told (PyFlat.played Kv204Neutral.step s cs)
theorem tail_cons (s : Kv204.State) (c : List (List Int)) (cs : List (List (List Int))) {k : Kv204.Call} (h : Kv204Neutral.callOf c = some k) :
    tail_ s (c :: cs) = ((Kv204Neutral.row (act s k).2).length : Int) :: (Kv204Neutral.row (act s k).2 ++ tail_ (act s k).1 cs) := by
  have e : Kv204Neutral.step s c = ((act s k).1, Kv204Neutral.row (act s k).2) := by
    unfold Kv204Neutral.step
    rw [h]
  show (((Kv204Neutral.step s c).2.length : Int) :: (Kv204Neutral.step s c).2) ++ tail_ (Kv204Neutral.step s c).1 cs = _
  rw [e]
  rfl
/-- a line's calls, one after another -/
inductive Calls : List Int → List (List (List Int)) → Prop
  | nil : Calls [] []
  | cons {x l : List Int} {c : List (List Int)} {cs : List (List (List Int))} {k : Kv204.Call} : Told1 x c k → Calls l cs → Calls (x ++ l) (c :: cs)
theorem calls_of : ∀ (f : Nat) (l : List Int) (cs : List (List (List Int))), PyFlat.calls PyKv204.shape f l = some cs → (∀ c ∈ cs, Kv204Neutral.askedOne (PyKv204.whole c) = true) → Calls l (cs.map PyKv204.whole)
  | _, [], cs, h, _ => by
    have h : some [] = some cs := by cases ‹Nat› <;> exact h
    cases h
    exact .nil
  | 0, _ :: _, _, h, _ => by cases h
  | f + 1, p :: r, cs, h, ha => by
    have h : (match PyFlat.call PyKv204.shape (p :: r) with
      | none => none
      | some (c, t) => match PyFlat.calls PyKv204.shape f t with
        | none => none
        | some cs => some (c :: cs)) = some cs := h
    split at h
    · cases h
    · rename_i c t e1
      split at h
      · cases h
      · rename_i cs' e2
        cases h
        obtain ⟨x, k, e, q⟩ := parse e1 (ha c (List.mem_cons_self ..))
        rw [e]
        exact .cons q (calls_of f t cs' e2 fun c hc => ha c (List.mem_cons_of_mem _ hc))
/-- what is asked, opened -/
theorem asked_of {l : List Int} (h : PyKv204.answers_asked l = true) : ∃ (cs : List (List (List Int))) (n : Nat) (t : List (List (List Int))), Calls l cs ∧ cs.length ≤ 256 ∧ cs = [[0, (n : Int)]] :: t ∧ 1 ≤ n ∧ n ≤ 64 ∧ PyKv204.answers l = tail_ none cs := by
  unfold PyKv204.answers_asked at h
  split at h
  · cases h
  · rename_i cs e
    have ea : PyKv204.answers l = tail_ none cs := by
      unfold PyKv204.answers
      rw [e]
      rfl
    rw [Bool.and_eq_true] at h
    unfold Kv204Neutral.asked at h
    rw [Bool.and_eq_true, Bool.and_eq_true, Bool.and_eq_true] at h
    obtain ⟨h0, ⟨⟨h1, h2⟩, h3⟩, h4⟩ := h
    have h1 := of_decide_eq_true h1
    unfold PyKv204.calls at e
    split at e
    · cases e
    · rename_i cs0 e0
      cases e
      have hc : Calls l (cs0.map PyKv204.whole) := calls_of _ _ _ e0 fun c hc => List.all_eq_true.mp h2 _ (List.mem_map.mpr ⟨c, hc, rfl⟩)
      generalize hcs : cs0.map PyKv204.whole = cs at hc h1 h3 h4 ea
      cases hc with
      | nil => exact absurd h1.1 (by decide)
      | @cons x r c cs k q hr =>
        have h4 : (Kv204Neutral.step Kv204Neutral.start c).2 = [0] := eq_of_beq h4
        have h3 : (c.headD []).headD 9 = 0 := eq_of_beq h3
        cases q with
        | start n =>
          refine ⟨_, n, cs, .cons (.start n) hr, h1.2, rfl, ?_⟩
          have h5 : Kv204Neutral.row (if n < 1 ∨ CELLS < n then ((none, no (-22)) : Kv204.State × Ans) else (some { cells := n }, no 0)).2 = [0] := h4
          by_cases hb : n < 1 ∨ CELLS < n
          · rw [if_pos hb] at h5
            cases h5
          · have hb : ¬ (n < 1 ∨ 64 < n) := hb
            exact ⟨by omega, by omega, ea⟩
        | turn => cases h3
        | say => cases h3
        | advise => cases h3
        | share => cases h3
end Ck

namespace Ck
open Kv204
/-! ### the answers, by the fields -/
def toldI (t : Told) : List Int := [0, (t.which : Int), (t.p.1 : Int), (t.p.2 : Int), (t.q.1 : Int), (t.q.2 : Int)]
def shareI (x : Stretch × Stretch) : List Int := [0, (x.1.1.1 : Int), (x.1.1.2 : Int), (x.1.2.1 : Int), (x.1.2.2 : Int), (x.2.1.1 : Int), (x.2.1.2 : Int), (x.2.2.1 : Int), (x.2.2.2 : Int)]
def M.fits (m : M) (w : Worth) : Bool := decide (w.length = m.cells) && w.right
def M.startR (m : M) (n : Nat) : M × List Int := if 1 ≤ n ∧ n ≤ 64 then (begin_ n, [0]) else (m, [-22])
def M.sayR (m : M) (t : Told) : M × List Int := if m.stage = 7 then (m, [-11]) else if m.maySay t = true then (m.said t, [0]) else (m, [-22])
def M.adviseR (m : M) (w : Worth) : List Int := if m.stage = 7 then [-11] else if m.fits w = true then toldI (m.advise w) else [-22]
def M.shareR (m : M) (i : Nat) : List Int := if ¬ i ≤ 2 then [-22] else if m.stage ≠ 7 then [-11] else shareI (m.share i)
/-- what Python's answer gives back for the call whose numbers are x -/
inductive Does (m : M) : List Int → M → List Int → Prop
  | start (n : Nat) : Does m [0, (n : Int)] (m.startR n).1 (m.startR n).2
  | turn : Does m [1] m [(m.turn : Int)]
  | say (k a b c d : Nat) : a < 2 ^ 64 → b < 2 ^ 64 → c < 2 ^ 64 → d < 2 ^ 64 → Does m [2, (k : Int), (a : Int), (b : Int), (c : Int), (d : Int)] (m.sayR ⟨k, (a, b), (c, d)⟩).1 (m.sayR ⟨k, (a, b), (c, d)⟩).2
  | advise (w : List Nat) : (∀ x ∈ w, x < 65536) → Does m (3 :: (w.length : Int) :: w.map Int.ofNat) m (m.adviseR w)
  | share (i : Nat) : Does m [4, (i : Int)] m (m.shareR i)
theorem act_ok {a : Abs} (g : Good a) {x : List Int} {c : List (List Int)} {k : Kv204.Call} (h : Told1 x c k) :
    ∃ b, (act (some a) k).1 = some b ∧ Good b ∧ Does (mOf a) x (mOf b) (Kv204Neutral.row (act (some a) k).2) := by
  cases h with
  | start n =>
    have e : act (some a) (.start n) = if n < 1 ∨ CELLS < n then (some a, no (-22)) else (some { cells := n }, no 0) := rfl
    rw [e]
    have d := Does.start (m := mOf a) n
    unfold M.startR at d
    by_cases hb : n < 1 ∨ 64 < n
    · rw [if_neg (by omega)] at d
      rw [if_pos (show n < 1 ∨ CELLS < n from hb)]
      exact ⟨a, rfl, g, d⟩
    · rw [if_pos (by omega)] at d
      rw [if_neg (show ¬ (n < 1 ∨ CELLS < n) from hb)]
      exact ⟨_, rfl, .cut (by omega) (by omega), d⟩
  | turn =>
    refine ⟨a, rfl, g, ?_⟩
    have d := Does.turn (m := mOf a)
    rw [turn_ok g] at d
    exact d
  | say k p1 p2 q1 q2 b1 b2 b3 b4 =>
    have d := Does.say (m := mOf a) k p1 p2 q1 q2 b1 b2 b3 b4
    generalize ht : (⟨k, (p1, p2), (q1, q2)⟩ : Told) = t at d
    have e : act (some a) (.say t) = if turn a = .over then (some a, no (-11)) else match say a (wordOf a t) with
        | none => (some a, no (-22))
        | some b => (some b, no 0) := rfl
    rw [e]
    unfold M.sayR at d
    by_cases ho : turn a = .over
    · rw [if_pos (over_iff.mpr ho)] at d
      rw [if_pos ho]
      exact ⟨a, rfl, g, d⟩
    · rw [if_neg (fun z => ho (over_iff.mp z))] at d
      rw [if_neg ho]
      rcases say_ok g ho t with ⟨h1, h2⟩ | ⟨h1, b, h2, h3, h4⟩
      · rw [if_neg (by rw [h1]; decide)] at d
        rw [h2]
        exact ⟨a, rfl, g, d⟩
      · rw [if_pos h1] at d
        rw [h2]
        refine ⟨b, rfl, h3, ?_⟩
        rw [h4]
        exact d
  | advise w hw =>
    refine ⟨a, ?_, g, ?_⟩
    · show (if turn a = .over then (some a, no (-11)) else match (if w.length ≤ CELLS then some w else none) with
        | none => (some a, no (-22))
        | some w => if w.length ≠ a.cells ∨ Worth.right w = false then (some a, no (-22)) else (some a, { ret := 0, word := some (toldOf (advise w a)) })).1 = some a
      by_cases ho : turn a = .over
      · rw [if_pos ho]
      · rw [if_neg ho]
        by_cases hl : w.length ≤ CELLS
        · rw [if_pos hl]
          show (if w.length ≠ a.cells ∨ Worth.right w = false then ((some a, no (-22)) : Kv204.State × Ans) else (some a, { ret := 0, word := some (toldOf (advise w a)) })).1 = some a
          split <;> rfl
        · rw [if_neg hl]
    · have d := Does.advise (m := mOf a) w hw
      have e : Kv204Neutral.row (act (some a) (.advise (if w.length ≤ CELLS then some w else none))).2 = (mOf a).adviseR w := by
        show Kv204Neutral.row (if turn a = .over then (some a, no (-11)) else match (if w.length ≤ CELLS then some w else none) with
          | none => (some a, no (-22))
          | some w => if w.length ≠ a.cells ∨ Worth.right w = false then (some a, no (-22)) else (some a, { ret := 0, word := some (toldOf (advise w a)) })).2 = _
        unfold M.adviseR
        by_cases ho : turn a = .over
        · rw [if_pos ho, if_pos (over_iff.mpr ho)]
          rfl
        · rw [if_neg ho, if_neg (fun z => ho (over_iff.mp z))]
          have hn : a.cells ≤ 64 := (ok_of g).n64
          by_cases hl : w.length ≤ CELLS
          · rw [if_pos hl]
            show Kv204Neutral.row (if w.length ≠ a.cells ∨ Worth.right w = false then ((some a, no (-22)) : Kv204.State × Ans) else (some a, { ret := 0, word := some (toldOf (advise w a)) })).2 = _
            by_cases hf : w.length ≠ a.cells ∨ Worth.right w = false
            · rw [if_pos hf, if_neg]
              · rfl
              · unfold M.fits
                rw [Bool.and_eq_true, decide_eq_true_iff]
                rintro ⟨z1, z2⟩
                rcases hf with z | z
                · exact z z1
                · rw [z] at z2; cases z2
            · have hf1 : w.length = a.cells := Decidable.byContradiction fun z => hf (.inl z)
              have hf2 : Worth.right w = true := by
                cases e : Worth.right w with
                | true => rfl
                | false => exact absurd (.inr e) hf
              rw [if_neg hf, if_pos]
              · rw [advise_ok g ho w]
                rfl
              · unfold M.fits
                rw [Bool.and_eq_true, decide_eq_true_iff]
                exact ⟨hf1, hf2⟩
          · rw [if_neg hl, if_neg]
            · rfl
            · unfold M.fits
              rw [Bool.and_eq_true, decide_eq_true_iff]
              rintro ⟨z1, z2⟩
              have z1 : w.length = a.cells := z1
              have : ¬ w.length ≤ 64 := hl
              omega
      rw [e]
      exact d
  | share i =>
    have d := Does.share (m := mOf a) i
    have e : act (some a) (.share i) = if 2 < i then (some a, no (-22)) else if turn a ≠ .over then (some a, no (-11)) else (some a, { ret := 0, parts := some (share a i) }) := rfl
    rw [e]
    unfold M.shareR at d
    by_cases hi : 2 < i
    · rw [if_pos (by omega)] at d
      rw [if_pos hi]
      exact ⟨a, rfl, g, d⟩
    · rw [if_neg (by omega)] at d
      rw [if_neg hi]
      by_cases ho : turn a = .over
      · rw [if_neg (fun z => z (over_iff.mpr ho)), share_ok g ho (by omega)] at d
        rw [if_neg (fun z => z ho)]
        exact ⟨a, rfl, g, d⟩
      · rw [if_pos (fun z => ho (over_iff.mp z))] at d
        rw [if_pos ho]
        exact ⟨a, rfl, g, d⟩
end Ck

set_option maxRecDepth 100000
set_option maxHeartbeats 2000000
namespace Ck
open PySem PySem.MeetsSeq PySem.MeetsSeq2 PySem.MeetsSeq3 PySem.AutoSeq1
theorem ext_tup (l : Addr) (items : Array Value) (n : Nat) (b : Addr) (items2 : Array Value) (n2 : Nat) (dd : Option Addr) (sl : Array (Option Value)) (hs0 : ¬(!items.isEmpty && Builtin.List.listTooLong (items.size + items2.size)) = true) (hs1 : items.size ≤ sizeLine) (hs2 : items.size + items2.size ≤ sizeLine + 1) :
    Meets (Builtin.«list.extend» ⟨[.ref l, .ref b], []⟩) (fun _ R s => s.heap.get? l = some { cls := .type "list", dict := none, data := .seq items n, slots := #[] } ∧ s.heap.get? b = some { cls := .type "tuple", dict := dd, data := .seq items2 n2, slots := sl } ∧ R (.ok (.ret Value.none)) { s with heap := s.heap.update l (Obj.mapSeq fun x => x ++ items2), toks := s.toks }) :=
  .of_wp fun prog w A R s h => by
    obtain ⟨hp, g, d, tk, os⟩ := s
    obtain ⟨hl, hb, h⟩ := h
    have f1 := idx_int
    have f2 := sub_tuple_tuple
    have f3 := sub_list_list
    have f4 := sub_tuple_list
    have f5 := sub_list_tuple
    have both : (items ++ items2).size ≤ sizeLine + 1 := Nat.le_trans (Nat.le_of_eq Array.size_append) hs2
    wp_walk using (wpAny_updateSeq hl rfl (hz := hs1) (_hz' := both)), wpAny_loadPart' hl, wpAny_loadPart' hb
    exact ⟨_, rfl, h⟩
end Ck

set_option Elab.async false
set_option linter.all false
set_option maxRecDepth 100000
set_option maxHeartbeats 2000000
namespace Ck
open PySem PySem.Spec PyProof.Rows L2
/-! ### ints of any size that is met here -/
def Bt (i : Int) : Prop := i.natAbs < 2 ^ 4000
theorem Bt.bits {i : Int} (h : Bt i) : Builtin.Int.intBits i ≤ 2 ^ 20 := by
  unfold Builtin.Int.intBits
  split
  · exact Nat.zero_le _
  · have h1 : i.natAbs.log2 < 4000 := by
      rcases Nat.eq_zero_or_pos i.natAbs with h0 | hp
      · rw [h0]; decide
      · exact (Nat.log2_lt (Nat.ne_of_gt hp)).mpr h
    have : (2:Nat) ^ 20 = 1048576 := by decide
    omega
theorem Bt.nat {n : Nat} (h : n < 2 ^ 4000) : Bt (n : Int) := by
  unfold Bt
  rw [Int.natAbs_natCast]
  exact h
theorem Bt.of {n b : Nat} (h : n < 2 ^ b) (hb : b ≤ 4000) : Bt (n : Int) := .nat (Nat.lt_of_lt_of_le h (Nat.pow_le_pow_right (by decide) hb))
section
variable {X : Cx}
theorem op_mulB : OpR X (binaryOp .Mult) (rI (fun i j => Bt i ∧ Bt j) fun i j => .int (i * j)) := opI fun _ _ _ _ _ _ _ hc q => mul_int q (IntMulOk.of_bits hc.1.bits hc.2.bits)
theorem op_fdivB : OpR X (binaryOp .FloorDiv) (rI (fun _ j => 0 < j ∧ Bt j) fun i j => .int (i / j)) := opI fun i j _ _ _ _ _ hc q => by
  have h1 : (0 : Int) < j := hc.1
  have h2 : j.natAbs < 2 ^ 4000 := hc.2
  refine floordiv_int (by omega) (by rw [Int.fdiv_eq_ediv_of_nonneg i (by omega)]; exact q) (.inl (PyProof.noPylong_of_log2 ?_))
  rcases Nat.eq_zero_or_pos j.natAbs with h0 | hp
  · rw [h0]; decide
  · exact Nat.lt_trans ((Nat.log2_lt (Nat.ne_of_gt hp)).mpr h2) (by decide)
/-- xs.extend(t) of a tuple -/
def rExtT (K : PySem.W.Frag) : V → List V → Hp → VK → Prop := fun x vs H Q => ∃ l b xs zs, x = .ref l ∧ vs = [.ref b] ∧ H l = some (.lst xs) ∧ SqT K H b zs ∧ xs.length + zs.length ≤ sizeLine ∧ Q .non (upd H l (.lst (xs ++ zs)))
end
theorem bt_len : bootBuiltins "len" = some (.builtin "len") := by decide +kernel
theorem bt_sum : bootBuiltins "sum" = some (.builtin "sum") := by decide +kernel
theorem bt_max : bootBuiltins "max" = some (.builtin "max") := by decide +kernel
theorem bt_list : bootBuiltins "list" = some (.type "list") := by decide +kernel
/-! ### tests -/
theorem dI (n k : Nat) : V.bl (decide (V.int (n : Int) = V.int (k : Int))) = V.bl (decide (n = k)) := congrArg V.bl (decide_eq_decide.mpr ⟨fun z => by injection z with z; omega, fun z => by rw [z]⟩)
theorem dN (n k : Nat) : V.bl (!decide (V.int (n : Int) = V.int (k : Int))) = V.bl (!decide (n = k)) := congrArg (fun z => V.bl (!z)) (decide_eq_decide.mpr ⟨fun z => by injection z with z; omega, fun z => by rw [z]⟩)
theorem iteD {c A B : Prop} [Decidable c] (h1 : c → A) (h2 : ¬ c → B) : if decide c = true then A else B := by
  by_cases h : c
  · rw [decide_eq_true h]; exact iteT (h1 h)
  · rw [decide_eq_false h]; exact iteF (h2 h)
theorem iteND {c A B : Prop} [Decidable c] (h1 : c → B) (h2 : ¬ c → A) : if (!decide c) = true then A else B := by
  by_cases h : c
  · rw [decide_eq_true h]; exact iteF (h1 h)
  · rw [decide_eq_false h]; exact iteT (h2 h)
/-! ### the values -/
section
variable (K : PySem.W.Frag) (H : Hp)
def PlV (x : V) (p : Kv204.At) : Prop := ∃ a, x = .ref a ∧ SqT K H a [.int (p.1 : Int), .int (p.2 : Int)]
def StV (x : V) (s : Kv204.Stretch) : Prop := ∃ a y z, x = .ref a ∧ SqT K H a [y, z] ∧ PlV K H y s.1 ∧ PlV K H z s.2
def WoV (x : V) (w : List Nat) : Prop := ∃ a, x = .ref a ∧ SqL K H a (w.map fun (n : Nat) => V.int (n : Int))
inductive Sts : List V → List Kv204.Stretch → Prop
  | nil : Sts [] []
  | cons {v : V} {vs : List V} {s : Kv204.Stretch} {ss : List Kv204.Stretch} : StV K H v s → Sts vs ss → Sts (v :: vs) (s :: ss)
def SlV (x : V) (ss : List Kv204.Stretch) : Prop := ∃ a xs, x = .ref a ∧ SqL K H a xs ∧ Sts K H xs ss
end
section
variable {K : PySem.W.Frag} {H H' : Hp}
theorem Same.tup {a : Addr} {xs : List V} (e : Same H H') (h : SqT K H a xs) : SqT K H' a xs := by
  rcases h with (h | ⟨o, h⟩) | h
  · exact .inl (.inl (e _ _ h))
  · exact .inl (.inr ⟨o, e _ _ h⟩)
  · exact .inr h
theorem PlV.mono {x : V} {p : Kv204.At} (e : Same H H') (h : PlV K H x p) : PlV K H' x p := by
  obtain ⟨a, rfl, h⟩ := h
  exact ⟨a, rfl, Same.tup e h⟩
theorem StV.mono {x : V} {p : Kv204.Stretch} (e : Same H H') (h : StV K H x p) : StV K H' x p := by
  obtain ⟨a, y, z, rfl, h, h1, h2⟩ := h
  exact ⟨a, y, z, rfl, Same.tup e h, h1.mono e, h2.mono e⟩
theorem WoV.mono {x : V} {w : List Nat} (e : Same H H') (h : WoV K H x w) : WoV K H' x w := by
  obtain ⟨a, rfl, h⟩ := h
  exact ⟨a, rfl, e.seq h⟩
theorem Sts.mono (e : Same H H') : ∀ {xs : List V} {ss : List Kv204.Stretch}, Sts K H xs ss → Sts K H' xs ss
  | _, _, .nil => .nil
  | _, _, .cons a b => .cons (a.mono e) (Sts.mono e b)
theorem SlV.mono {x : V} {ss : List Kv204.Stretch} (e : Same H H') (h : SlV K H x ss) : SlV K H' x ss := by
  obtain ⟨a, xs, rfl, h, q⟩ := h
  exact ⟨a, xs, rfl, e.seq h, q.mono e⟩
theorem Sts.get : ∀ {xs : List V} {ss : List Kv204.Stretch} {i : Nat} {s : Kv204.Stretch}, Sts K H xs ss → ss[i]? = some s → ∃ v, xs[i]? = some v ∧ StV K H v s
  | _, _, _, _, .nil, e => by simp at e
  | _, _, 0, _, .cons a _, e => by simp at e; subst e; exact ⟨_, rfl, a⟩
  | _, _, i + 1, s, .cons _ t, e => by
    obtain ⟨v, h1, h2⟩ := Sts.get (i := i) (s := s) t (by simpa using e)
    exact ⟨v, by simpa using h1, h2⟩
theorem Sts.len : ∀ {xs : List V} {ss : List Kv204.Stretch}, Sts K H xs ss → xs.length = ss.length
  | _, _, .nil => rfl
  | _, _, .cons _ t => by rw [List.length_cons, List.length_cons, t.len]
theorem Sts.set {v : V} {s : Kv204.Stretch} (h : StV K H v s) : ∀ {xs : List V} {ss : List Kv204.Stretch} (i : Nat), Sts K H xs ss → Sts K H (xs.set i v) (ss.set i s)
  | _, _, _, .nil => .nil
  | _, _, 0, .cons _ t => .cons h t
  | _, _, i + 1, .cons a t => .cons a (Sts.set h i t)
theorem same_new {a : Addr} {o : HO} (h : H a = none) : Same H (upd H a o) := fun b u e => by
  rw [upd_ne (ne_of_none e h)]
  exact e
theorem same_upd {H0 : Hp} {a : Addr} {o : HO} (h : H0 a = none) (e : Same H0 H) : Same H0 (upd H a o) := fun b u z => by
  rw [upd_ne (ne_of_none z h)]
  exact e b u z
theorem PlV.new {a : Addr} (p : Kv204.At) : PlV K (upd H a (.tup [.int (p.1 : Int), .int (p.2 : Int)])) (.ref a) p := ⟨a, rfl, SqT.of upd_same⟩
theorem StV.new {a : Addr} {y z : V} {s : Kv204.Stretch} (h : H a = none) (h1 : PlV K H y s.1) (h2 : PlV K H z s.2) : StV K (upd H a (.tup [y, z])) (.ref a) s :=
  ⟨a, y, z, rfl, SqT.of upd_same, h1.mono (same_new h), h2.mono (same_new h)⟩
theorem WoV.get {w : List Nat} {i n : Nat} (h : w[i]? = some n) : (w.map fun (n : Nat) => V.int (n : Int))[i]? = some (V.int (n : Int)) := by
  rw [List.getElem?_map, h]
  rfl
end
/-! ### defs of the text, and their promises -/
section
variable (P : Program) (w : World) (K : PySem.W.Frag) (mg : Str → Option Value) (base : Heap)
/-- a def's promise, with all that a call of it asks -/
structure Fn (x : Str) (ps : List Str) (k : Nat) (sp : Sp) : Prop where
  ex : ∃ f fd, FnOk P w K mg base CX0 k f fd ps sp ∧ mg x = some (.ref f) ∧ PySem.W.keepIn K (.ref f) = true ∧ Binds K fd ps []
structure Mt (C : Addr) (m : Str) (ps : List Str) (k : Nat) (sp : Sp) : Prop where
  ex : ∃ f fd, FnOk P w K mg base CX0 k f fd ps sp ∧ Meth K C m f ∧ Binds K fd ps []
end
/-- a def of the text stands -/
structure Df (K : PySem.W.Frag) (mg : Str → Option Value) (x : Str) (st : Stmt) (ps : List Str) : Prop where
  ex : ∃ f fd, Fun K x x st f fd ∧ mg x = some (.ref f) ∧ Binds K fd ps []
structure Dm (K : PySem.W.Frag) (C : Addr) (m q : Str) (st : Stmt) (ps : List Str) : Prop where
  ex : ∃ f fd, Fun K m q st f fd ∧ Meth K C m f ∧ Binds K fd ps []
section
variable {P : Program} {w : World} {K : PySem.W.Frag} {mg : Str → Option Value} {base : Heap}
theorem Df.fn {x : Str} {st : Stmt} {N ps : List Str} {k : Nat} {sp : Sp} (D : Df K mg x st ps) (S : FnScope N ps (defScope st)) (len : ∀ vs H Q E, sp vs H Q E → vs.length = ps.length)
    (hbody : ∀ (f : Addr) (cdv : Value) (A : Around) (outer : List Env) (s : Shared) (H : Hp) (vs : List V) (Q : VK) (E : XK), Room k (A.deeper (envOfC x (defScope st) s.heap.objs.size f cdv)) → sp vs H Q E →
      ∃ t, PSs (cxOf CX0 P w K mg base N x (defScope st) f cdv A outer s H E).nox (defBody st) t ∧ t { nx := fun _ H' => Q .non H', rt := Q } (start N vs) H) : Fn P w K mg base x ps (k + 1) sp := by
  obtain ⟨f, fd, F, hm, hb⟩ := D.ex
  exact ⟨f, fd, F.ok S len fun cdv A outer s H vs Q E hr h => hbody f cdv A outer s H vs Q E hr h, hm, F.kp, hb⟩
theorem Dm.mt {C : Addr} {m q : Str} {st : Stmt} {N ps : List Str} {k : Nat} {sp : Sp} (D : Dm K C m q st ps) (S : FnScope N ps (defScope st)) (len : ∀ vs H Q E, sp vs H Q E → vs.length = ps.length)
    (hbody : ∀ (f : Addr) (cdv : Value) (A : Around) (outer : List Env) (s : Shared) (H : Hp) (vs : List V) (Q : VK) (E : XK), Room k (A.deeper (envOfC q (defScope st) s.heap.objs.size f cdv)) → sp vs H Q E →
      ∃ t, PSs (cxOf CX0 P w K mg base N q (defScope st) f cdv A outer s H E).nox (defBody st) t ∧ t { nx := fun _ H' => Q .non H', rt := Q } (start N vs) H) : Mt P w K mg base C m ps (k + 1) sp := by
  obtain ⟨f, fd, F, hm, hb⟩ := D.ex
  exact ⟨f, fd, F.ok S len fun cdv A outer s H vs Q E hr h => hbody f cdv A outer s H vs Q E hr h, hm, hb⟩
end
section
variable {X : Cx} {k j : Nat} {C : Addr} {ps : List Str} {sp : Sp} {x m : Str} {p pos apos : Pos} {e o : Expr} {es : List Expr} {ta : TE} {t : TA}
theorem pe_fn (F : Fn X.prog X.w X.K X.mg X.base x ps k sp) (hr : Room j X.A) (ha : PA X (e :: es) t) (hj : k ≤ j := by decide) (hg : Gl X x := by rfl) (hdb : (x == ("__debug__" : Str)) = false := by decide) (he : starEach (e :: es) X.env = (false, eval e X.env) :: starEach es X.env := by rfl) (hpl : (backTo pos (starEach es X.env)).any (·.1) = false := by rfl) :
    PE X (.Call (.Name x p) (e :: es) [] pos) (tCall sp [] E0 t) := by
  obtain ⟨f, fd, G, hm, hk, hb⟩ := F.ex
  exact pe_call G (hr.mono hj) hg hm hk hb .nil pass0 ha hdb he hpl
theorem pe_mt {pl : Sem Bool} (M : Mt X.prog X.w X.K X.mg X.base C m ps k sp) (c : Cls X.K C) (hr : Room j X.A) (ho : PE X o ta) (ha : PA X (e :: es) t) (hj : k ≤ j := by decide)
    (hst : starEach (e :: es) X.env = (false, eval e X.env) :: starEach es X.env := by rfl) (hpl : (backTo pos (starEach es X.env)).any (·.1) = false := by rfl)
    (ht : eval (.Call (.Attribute o m apos) (e :: es) [] pos) X.env = (do
      let ov ← eval o X.env
      standAt apos.atName
      let (f, first) ← holding [ov] (getMethod ov m pl)
      callWith pos f first (backTo pos (starEach (e :: es) X.env)) (backToKw pos (keywordEach [] X.env))) := by rfl) :
    PE X (.Call (.Attribute o m apos) (e :: es) [] pos) (tMeth C m sp [] E0 ta t) := by
  obtain ⟨f, fd, G, hm, hb⟩ := M.ex
  exact pe_meth ho c hm G (hr.mono hj) hb .nil pass0 ha hst hpl ht
theorem pe_mt0 {pl : Sem Bool} (M : Mt X.prog X.w X.K X.mg X.base C m ps k sp) (c : Cls X.K C) (hr : Room j X.A) (ho : PE X o ta) (hj : k ≤ j := by decide)
    (ht : eval (.Call (.Attribute o m apos) [] [] pos) X.env = (do
      let ov ← eval o X.env
      standAt apos.atName
      let (f, first) ← holding [ov] (getMethod ov m pl)
      callWith pos f first (backTo pos (starEach [] X.env)) (backToKw pos (keywordEach [] X.env))) := by rfl) :
    PE X (.Call (.Attribute o m apos) [] [] pos) (tMeth C m sp [] E0 ta tNil) := by
  obtain ⟨f, fd, G, hm, hb⟩ := M.ex
  exact pe_meth0 ho c hm G (hr.mono hj) hb .nil pass0 ht
/-- the class's own making -/
structure Ini (P : Program) (w : World) (K : PySem.W.Frag) (mg : Str → Option Value) (base : Heap) (C : Addr) (k : Nat) (sp : Sp) : Prop where
  ex : ∃ f fd, Mk K C f ∧ FnOk P w K mg base CX0 k f fd ["self"] sp ∧ Binds K fd ["self"] []
structure Di (K : PySem.W.Frag) (C : Addr) (st : Stmt) : Prop where
  ex : ∃ f fd, Fun K "__init__" "Sharing.__init__" st f fd ∧ Mk K C f ∧ Binds K fd ["self"] []
theorem Di.ini {P : Program} {w : World} {K : PySem.W.Frag} {mg : Str → Option Value} {base : Heap} {st : Stmt} {N : List Str} (D : Di K C st) (S : FnScope N ["self"] (defScope st)) (len : ∀ vs H Q E, sp vs H Q E → vs.length = (["self"] : List Str).length)
    (hbody : ∀ (f : Addr) (cdv : Value) (A : Around) (outer : List Env) (s : Shared) (H : Hp) (vs : List V) (Q : VK) (E : XK), Room k (A.deeper (envOfC "Sharing.__init__" (defScope st) s.heap.objs.size f cdv)) → sp vs H Q E →
      ∃ t, PSs (cxOf CX0 P w K mg base N "Sharing.__init__" (defScope st) f cdv A outer s H E).nox (defBody st) t ∧ t { nx := fun _ H' => Q .non H', rt := Q } (start N vs) H) : Ini P w K mg base C (k + 1) sp := by
  obtain ⟨f, fd, F, hm, hb⟩ := D.ex
  exact ⟨f, fd, hm, F.ok S len fun cdv A outer s H vs Q E hr h => hbody f cdv A outer s H vs Q E hr h, hb⟩
theorem pe_mk (M : Ini X.prog X.w X.K X.mg X.base C k sp) (hr : Room j X.A) (hm : X.mg x = some (.ref C)) (hj : k + 1 ≤ j := by decide) (hg : Gl X x := by rfl) (hdb : (x == ("__debug__" : Str)) = false := by decide) :
    PE X (.Call (.Name x p) [] [] pos) (tMake C sp [] E0 tNil) := by
  obtain ⟨f, fd, M, G, hb⟩ := M.ex
  exact pe_make0 M G (hr.mono hj) hg hm hb .nil pass0 hdb
/-- a constant of the module -/
def IntC (mg : Str → Option Value) (x : Str) (n : Int) : Prop := ∃ t, mg x = some (.int n t)
def TupC (K : PySem.W.Frag) (mg : Str → Option Value) (x : Str) (xs : List V) : Prop := ∃ a, mg x = some (.ref a) ∧ ∀ H, SqT K H a xs
theorem pe_ci {n : Int} (h : IntC X.mg x n) (hg : Gl X x := by rfl) (hd : (x == ("__debug__" : Str)) = false := by decide) : PE X (.Name x pos) (tC (.int n)) := by
  obtain ⟨t, h⟩ := h
  exact pe_glob hg h ⟨t, rfl⟩ hd
/-- a tuple of the module -/
def tTc (K : PySem.W.Frag) (xs : List V) : TE := fun _ H Q => ∀ a, (∀ H, SqT K H a xs) → Q (.ref a) H
theorem pe_ct {xs : List V} (h : TupC X.K X.mg x xs) (hg : Gl X x := by rfl) (hd : (x == ("__debug__" : Str)) = false := by decide) : PE X (.Name x pos) (tTc X.K xs) := by
  obtain ⟨a, h, hs⟩ := h
  intro pins s σ H Q I q
  exact ld_glob I hg h ⟨.ref a, H, I, rfl, q a hs⟩ hd
end
/-! ### the text by places -/
def top (i : Nat) : Stmt := PySem.Challenge.pw_cakeshares_s01_answers.main.body.getD i (.Pass ⟨0, 0, 0, 0⟩)
abbrev md (j : Nat) : Stmt := inClass (top 42) j
end Ck

set_option Elab.async false
set_option linter.all false
set_option maxRecDepth 100000
set_option maxHeartbeats 2000000
namespace Ck
open PySem PySem.Spec PyProof.Rows L2
open Kv204 (lowest plus minus le)
structure Txt (K : PySem.W.Frag) (mg : Str → Option Value) (C : Addr) : Prop where
  cl : Cls K C
  mgC : mg "Sharing" = some (.ref C)
  c_START : IntC mg "START" (0)
  c_TURN : IntC mg "TURN" (1)
  c_SAY : IntC mg "SAY" (2)
  c_ADVISE : IntC mg "ADVISE" (3)
  c_CUT : IntC mg "CUT" (0)
  c_TRIM : IntC mg "TRIM" (1)
  c_PIECE_BY_TWO : IntC mg "PIECE_BY_TWO" (2)
  c_PIECE_BY_ONE : IntC mg "PIECE_BY_ONE" (3)
  c_PART : IntC mg "PART" (4)
  c_PART_BY_HOLDER : IntC mg "PART_BY_HOLDER" (5)
  c_PART_BY_ZERO : IntC mg "PART_BY_ZERO" (6)
  c_OVER : IntC mg "OVER" (7)
  c_DONE : IntC mg "DONE" (0)
  c_NOT_NOW : IntC mg "NOT_NOW" (-11)
  c_NOT_ALLOWED : IntC mg "NOT_ALLOWED" (-22)
  c_MOST_CELLS : IntC mg "MOST_CELLS" (64)
  c_MOST_WORTH : IntC mg "MOST_WORTH" (1000)
  c_CUT_UNDER : IntC mg "CUT_UNDER" (4000)
  c_TRIM_UNDER : IntC mg "TRIM_UNDER" (17179869184)
  c_PART_UNDER : IntC mg "PART_UNDER" (288230376151711744)
  t_CALL_LENGTHS : TupC K mg "CALL_LENGTHS" [.int 2, .int 1, .int 6, .int 2, .int 2]
  t_NO_PLACE : TupC K mg "NO_PLACE" [.int 0, .int 1]
  t_ALL_THREE : TupC K mg "ALL_THREE" [.int 0, .int 1, .int 2]
  b_len : mg "len" = none
  b_sum : mg "sum" = none
  b_max : mg "max" = none
  b_list : mg "list" = none
  d_common_divisor : Df K mg "common_divisor" (top 24) ["first", "second"]
  d_lowest : Df K mg "lowest" (top 25) ["over", "under"]
  d_added : Df K mg "added" (top 26) ["first", "second"]
  d_less : Df K mg "less" (top 27) ["first", "second"]
  d_is_up_to : Df K mg "is_up_to" (top 28) ["first", "second"]
  d_is_place : Df K mg "is_place" (top 29) ["place", "most_under"]
  d_is_within : Df K mg "is_within" (top 30) ["place", "stretch"]
  d_may_cut : Df K mg "may_cut" (top 31) ["stretch", "first", "second", "most_under"]
  d_may_trim : Df K mg "may_trim" (top 32) ["piece", "place"]
  d_cut_in_three : Df K mg "cut_in_three" (top 33) ["stretch", "first", "second"]
  d_third_of : Df K mg "third_of" (top 34) ["first", "second"]
  d_mark : Df K mg "mark" (top 35) ["worth", "place"]
  d_stretch_worth : Df K mg "stretch_worth" (top 36) ["worth", "stretch"]
  d_first_place_with : Df K mg "first_place_with" (top 37) ["worth", "begin", "wanted"]
  d_thirds : Df K mg "thirds" (top 38) ["worth", "stretch"]
  d_worth_most : Df K mg "worth_most" (top 39) ["worth", "stretches", "numbers"]
  d_trim_advised : Df K mg "trim_advised" (top 40) ["worth", "pieces", "which"]
  d_advice : Df K mg "advice" (top 41) ["which", "first", "second"]
  m_begin : Dm K C "begin" "Sharing.begin" (md 1) ["self", "cells"]
  m_start : Dm K C "start" "Sharing.start" (md 2) ["self", "cells"]
  m_holder : Dm K C "holder" "Sharing.holder" (md 3) ["self"]
  m_parter : Dm K C "parter" "Sharing.parter" (md 4) ["self"]
  m_person : Dm K C "person" "Sharing.person" (md 5) ["self"]
  m_turn : Dm K C "turn" "Sharing.turn" (md 6) ["self"]
  m_choices : Dm K C "choices" "Sharing.choices" (md 7) ["self"]
  m_may_say : Dm K C "may_say" "Sharing.may_say" (md 8) ["self", "which", "first", "second"]
  m_say : Dm K C "say" "Sharing.say" (md 9) ["self", "which", "first", "second"]
  m_trim : Dm K C "trim" "Sharing.trim" (md 10) ["self", "which", "place"]
  m_choose : Dm K C "choose" "Sharing.choose" (md 11) ["self", "which"]
  m_end_without_trimmings : Dm K C "end_without_trimmings" "Sharing.end_without_trimmings" (md 12) ["self"]
  m_fits : Dm K C "fits" "Sharing.fits" (md 13) ["self", "worth"]
  m_advise : Dm K C "advise" "Sharing.advise" (md 14) ["self", "worth"]
  m_share : Dm K C "share" "Sharing.share" (md 15) ["self", "who"]
  d_call_length : Df K mg "call_length" (top 43) ["calls", "at"]
  d_answer : Df K mg "answer" (top 44) ["sharing", "call"]
  d_answers : Df K mg "answers" (top 45) ["calls"]
  d_init : Di K C (md 0)
  n_cake : NoAttr K C "cake"
  n_cells : NoAttr K C "cells"
  n_stage : NoAttr K C "stage"
  n_pieces : NoAttr K C "pieces"
  n_piece_of : NoAttr K C "piece_of"
  n_trimmed : NoAttr K C "trimmed"
  n_trimmings : NoAttr K C "trimmings"
  n_parts : NoAttr K C "parts"
  n_part_of : NoAttr K C "part_of"
section
variable {P : Program} {w : World} {K : PySem.W.Frag} {mg : Str → Option Value} {base : Heap} {C : Addr}
/-! ### common_divisor -/
def spGcd : Sp := fun vs H Q _ => ∃ a b : Nat, vs = [.int a, .int b] ∧ Q (.int (Nat.gcd a b : Nat)) H
theorem sc_common_divisor : FnScope ["first", "second", "rest"] ["first", "second"] (defScope (top 24)) := ⟨rfl, rfl, rfl, by decide +kernel, rfl, by decide +kernel, by decide +kernel⟩
theorem fn_common_divisor (T : Txt K mg C) : Fn P w K mg base "common_divisor" ["first", "second"] 1 spGcd := by
  refine T.d_common_divisor.fn sc_common_divisor (fun vs H Q E h => ?_) (fun f cdv A outer s H vs Q E hr h => ?_)
  · obtain ⟨a, b, rfl, _⟩ := h
    rfl
  · obtain ⟨a, b, rfl, k⟩ := h
    refine ⟨_, (pss_cons (ps_while PassesOwn.never (pt_cmpR op_ne (pv 1) pe_int (nomark _)) (pss_cons (ps_set (i := 2) sc_common_divisor.nd rfl (Or.inl rfl) (pe_op op_mod (pv 0) (pv 1))) (pss_cons (ps_set (i := 0) sc_common_divisor.nd rfl (Or.inl rfl) (pv 1)) (pss_one (ps_set (i := 1) sc_common_divisor.nd rfl (Or.inl rfl) (pv 2)))))) (pss_one (ps_ret (pv 0)))), ?_⟩
    refine ⟨fun m σ H' => H' = H ∧ ∃ (x y : Nat) (r : Option V), σ = [some (.int x), some (.int y), r] ∧ Nat.gcd x y = Nat.gcd a b ∧ y = m, ⟨b, rfl, a, b, none, rfl, rfl, rfl⟩, ?_⟩
    rintro m σ H' ⟨rfl, x, y, r, rfl, hg, rfl⟩
    refine ⟨_, rfl, rfl, _, rfl, ?_⟩
    by_cases hy : y = 0
    · subst hy
      refine iteNS (by rfl) ?_
      rw [Nat.gcd_zero_right] at hg
      subst hg
      exact ⟨_, rfl, k⟩
    · have hne : ¬ V.int (y : Int) = V.int 0 := fun z => hy (by injection z with z; omega)
      rw [decide_eq_false hne]
      refine iteT ?_
      refine ⟨fun σ' H2 => H2 = H' ∧ ∃ r, σ' = [some (.int y), some (.int ((x % y : Nat) : Int)), r], ?_, ?_⟩
      · rintro σ' H2 ⟨rfl, r', rfl⟩
        refine ⟨x % y, Nat.mod_lt _ (Nat.pos_of_ne_zero hy), rfl, y, x % y, r', rfl, ?_, rfl⟩
        rw [← hg, Nat.gcd_comm y, Nat.gcd_comm x, ← Nat.gcd_rec]
      · refine ⟨_, rfl, _, rfl, _, _, rfl, rfl, (by show (0 : Int) < (y : Int); omega), _, rfl, _, rfl, rfl, _, rfl⟩
/-! ### lowest -/
def spLow (K : PySem.W.Frag) : Sp := fun vs H Q _ => ∃ o u : Nat, vs = [.int o, .int u] ∧ 0 < u ∧ u < 2 ^ 4000 ∧ ∀ H' v, Same H H' → PlV K H' v (lowest (o, u)) → Q v H'
theorem sc_lowest : FnScope ["over", "under", "divisor"] ["over", "under"] (defScope (top 25)) := ⟨rfl, rfl, rfl, by decide +kernel, rfl, by decide +kernel, by decide +kernel⟩
theorem fn_lowest (T : Txt K mg C) : Fn P w K mg base "lowest" ["over", "under"] 2 (spLow K) := by
  have G_common_divisor : Fn P w K mg base "common_divisor" _ 1 spGcd := fn_common_divisor T
  refine T.d_lowest.fn sc_lowest (fun vs H Q E h => ?_) (fun f cdv A outer s H vs Q E hr h => ?_)
  · obtain ⟨a, b, rfl, _⟩ := h
    rfl
  · obtain ⟨o, u, rfl, h0, hb, k⟩ := h
    refine ⟨_, (pss_cons (ps_set (i := 2) sc_lowest.nd rfl (Or.inl rfl) (pe_fn G_common_divisor hr (pa_cons (pv 0) (pa_cons (pv 1) pa_nil)))) (pss_one (ps_ret (pe_tup (pa_cons (pe_op op_fdivB (pv 0) (pv 2)) (pa_cons (pe_op op_fdivB (pv 1) (pv 2)) pa_nil)))))), ?_⟩
    have g0 : 0 < Nat.gcd o u := Nat.gcd_pos_of_pos_right _ h0
    have gb : Bt ((Nat.gcd o u : Nat) : Int) := .nat (Nat.lt_of_le_of_lt (Nat.le_of_dvd h0 (Nat.gcd_dvd_right _ _)) hb)
    have gp : (0 : Int) < ((Nat.gcd o u : Nat) : Int) := by omega
    refine ⟨_, rfl, _, rfl, o, u, rfl, ?_⟩
    refine ⟨_, rfl, _, rfl, _, _, rfl, rfl, ⟨gp, gb⟩, _, rfl, _, rfl, _, _, rfl, rfl, ⟨gp, gb⟩, (by show 2 ≤ sizeLine; decide), fun p hp => ?_⟩
    refine k _ _ (same_new hp) ?_
    rw [lowest_eq (p := (o, u)) h0]
    exact PlV.new (o / Nat.gcd o u, u / Nat.gcd o u)
/-! ### added, less, is_up_to -/
theorem sz_bt1 {p : Kv204.At} (h : Sz 1000 p) : Bt (p.1 : Int) := .of h.one (by decide)
theorem sz_bt2 {p : Kv204.At} (h : Sz 1000 p) : Bt (p.2 : Int) := .of h.two (by decide)
theorem sz_mul {p q : Kv204.At} (h : Sz 1000 p) (k : Sz 1000 q) : p.2 * q.2 < 2 ^ 4000 := Nat.lt_of_lt_of_le (mul_lt_pow h.two k.two) (Nat.pow_le_pow_right (by decide) (by decide))
def spAdd (K : PySem.W.Frag) : Sp := fun vs H Q _ => ∃ x y p q, vs = [x, y] ∧ PlV K H x p ∧ PlV K H y q ∧ Sz 1000 p ∧ Sz 1000 q ∧ ∀ H' v, Same H H' → PlV K H' v (lowest (plus p q)) → Q v H'
theorem sc_added : FnScope ["first", "second"] ["first", "second"] (defScope (top 26)) := ⟨rfl, rfl, rfl, by decide +kernel, rfl, by decide +kernel, by decide +kernel⟩
theorem fn_added (T : Txt K mg C) : Fn P w K mg base "added" ["first", "second"] 3 (spAdd K) := by
  have G_lowest : Fn P w K mg base "lowest" _ 2 (spLow K) := fn_lowest T
  refine T.d_added.fn sc_added (fun vs H Q E h => ?_) (fun f cdv A outer s H vs Q E hr h => ?_)
  · obtain ⟨x, y, p, q, rfl, _⟩ := h
    rfl
  · obtain ⟨x, y, p, q, rfl, ⟨a, rfl, ha⟩, ⟨b, rfl, hb⟩, sp, sq, k⟩ := h
    refine ⟨_, (pss_one (ps_ret (pe_fn G_lowest hr (pa_cons (pe_op op_add (pe_op op_mulB (pe_ix ix_tup (pv 0) pe_int (fun _ _ => rfl)) (pe_ix ix_tup (pv 1) pe_int (fun _ _ => rfl))) (pe_op op_mulB (pe_ix ix_tup (pv 1) pe_int (fun _ _ => rfl)) (pe_ix ix_tup (pv 0) pe_int (fun _ _ => rfl)))) (pa_cons (pe_op op_mulB (pe_ix ix_tup (pv 0) pe_int (fun _ _ => rfl)) (pe_ix ix_tup (pv 1) pe_int (fun _ _ => rfl))) pa_nil))))), ?_⟩
    exact ⟨_, rfl, _, _, _, _, rfl, rfl, ha, rfl, _, rfl, _, _, _, _, rfl, rfl, hb, rfl, _, _, rfl, rfl, ⟨sz_bt1 sp, sz_bt2 sq⟩, _, rfl, _, _, _, _, rfl, rfl, hb, rfl, _, rfl, _, _, _, _, rfl, rfl, ha, rfl, _, _, rfl, rfl, ⟨sz_bt1 sq, sz_bt2 sp⟩, _, _, rfl, rfl, _, rfl, _, _, _, _, rfl, rfl, ha, rfl, _, rfl, _, _, _, _, rfl, rfl, hb, rfl, _, _, rfl, rfl, ⟨sz_bt2 sp, sz_bt2 sq⟩,
      (plus p q).1, (plus p q).2, rfl, plus_pos sp.pos sq.pos, sz_mul sp sq, fun H' v e hv => k H' v e hv⟩
def spLess (K : PySem.W.Frag) : Sp := fun vs H Q _ => ∃ x y p q, vs = [x, y] ∧ PlV K H x p ∧ PlV K H y q ∧ Sz 1000 p ∧ Sz 1000 q ∧ Le q p ∧ ∀ H' v, Same H H' → PlV K H' v (lowest (minus p q)) → Q v H'
theorem less_val {p q : Kv204.At} (h : Le q p) : ((p.1 : Int) * (q.2 : Int) - (q.1 : Int) * (p.2 : Int)) = ((minus p q).1 : Nat) := by
  unfold Le at h
  show _ = ((p.1 * q.2 - q.1 * p.2 : Nat) : Int)
  rw [Int.ofNat_sub h]
  rfl
theorem sc_less : FnScope ["first", "second"] ["first", "second"] (defScope (top 27)) := ⟨rfl, rfl, rfl, by decide +kernel, rfl, by decide +kernel, by decide +kernel⟩
theorem fn_less (T : Txt K mg C) : Fn P w K mg base "less" ["first", "second"] 3 (spLess K) := by
  have G_lowest : Fn P w K mg base "lowest" _ 2 (spLow K) := fn_lowest T
  refine T.d_less.fn sc_less (fun vs H Q E h => ?_) (fun f cdv A outer s H vs Q E hr h => ?_)
  · obtain ⟨x, y, p, q, rfl, _⟩ := h
    rfl
  · obtain ⟨x, y, p, q, rfl, ⟨a, rfl, ha⟩, ⟨b, rfl, hb⟩, sp, sq, hl, k⟩ := h
    refine ⟨_, (pss_one (ps_ret (pe_fn G_lowest hr (pa_cons (pe_op op_sub (pe_op op_mulB (pe_ix ix_tup (pv 0) pe_int (fun _ _ => rfl)) (pe_ix ix_tup (pv 1) pe_int (fun _ _ => rfl))) (pe_op op_mulB (pe_ix ix_tup (pv 1) pe_int (fun _ _ => rfl)) (pe_ix ix_tup (pv 0) pe_int (fun _ _ => rfl)))) (pa_cons (pe_op op_mulB (pe_ix ix_tup (pv 0) pe_int (fun _ _ => rfl)) (pe_ix ix_tup (pv 1) pe_int (fun _ _ => rfl))) pa_nil))))), ?_⟩
    exact ⟨_, rfl, _, _, _, _, rfl, rfl, ha, rfl, _, rfl, _, _, _, _, rfl, rfl, hb, rfl, _, _, rfl, rfl, ⟨sz_bt1 sp, sz_bt2 sq⟩, _, rfl, _, _, _, _, rfl, rfl, hb, rfl, _, rfl, _, _, _, _, rfl, rfl, ha, rfl, _, _, rfl, rfl, ⟨sz_bt1 sq, sz_bt2 sp⟩, _, _, rfl, rfl, _, rfl, _, _, _, _, rfl, rfl, ha, rfl, _, rfl, _, _, _, _, rfl, rfl, hb, rfl, _, _, rfl, rfl, ⟨sz_bt2 sp, sz_bt2 sq⟩,
      (minus p q).1, (minus p q).2, congrArg (fun z => [V.int z, V.int ((minus p q).2 : Nat)]) (less_val hl), minus_pos sp.pos sq.pos, sz_mul sp sq, fun H' v e hv => k H' v e hv⟩
def spUp (K : PySem.W.Frag) : Sp := fun vs H Q _ => ∃ x y p q, vs = [x, y] ∧ PlV K H x p ∧ PlV K H y q ∧ Sz 1000 p ∧ Sz 1000 q ∧ Q (.bl (le p q)) H
theorem up_val (p q : Kv204.At) : decide ((p.1 : Int) * (q.2 : Int) ≤ (q.1 : Int) * (p.2 : Int)) = le p q := by
  show _ = decide (p.1 * q.2 ≤ q.1 * p.2)
  exact decide_eq_decide.mpr (Int.ofNat_le (m := p.1 * q.2) (n := q.1 * p.2))
theorem sc_is_up_to : FnScope ["first", "second"] ["first", "second"] (defScope (top 28)) := ⟨rfl, rfl, rfl, by decide +kernel, rfl, by decide +kernel, by decide +kernel⟩
theorem fn_is_up_to (T : Txt K mg C) : Fn P w K mg base "is_up_to" ["first", "second"] 1 (spUp K) := by
  refine T.d_is_up_to.fn sc_is_up_to (fun vs H Q E h => ?_) (fun f cdv A outer s H vs Q E hr h => ?_)
  · obtain ⟨x, y, p, q, rfl, _⟩ := h
    rfl
  · obtain ⟨x, y, p, q, rfl, ⟨a, rfl, ha⟩, ⟨b, rfl, hb⟩, sp, sq, k⟩ := h
    refine ⟨_, (pss_one (ps_ret (pe_cmpR op_le (pe_op op_mulB (pe_ix ix_tup (pv 0) pe_int (fun _ _ => rfl)) (pe_ix ix_tup (pv 1) pe_int (fun _ _ => rfl))) (pe_op op_mulB (pe_ix ix_tup (pv 1) pe_int (fun _ _ => rfl)) (pe_ix ix_tup (pv 0) pe_int (fun _ _ => rfl))) (nomark _)))), ?_⟩
    rw [← up_val] at k
    exact ⟨_, rfl, _, _, _, _, rfl, rfl, ha, rfl, _, rfl, _, _, _, _, rfl, rfl, hb, rfl, _, _, rfl, rfl, ⟨sz_bt1 sp, sz_bt2 sq⟩, _, rfl, _, _, _, _, rfl, rfl, hb, rfl, _, rfl, _, _, _, _, rfl, rfl, ha, rfl, _, _, rfl, rfl, ⟨sz_bt1 sq, sz_bt2 sp⟩, _, _, rfl, rfl, k⟩
/-! ### is_place, is_within, may_cut, may_trim -/
def spIsP (K : PySem.W.Frag) : Sp := fun vs H Q _ => ∃ x p, ∃ most : Nat, vs = [x, .int most] ∧ PlV K H x p ∧ Q (.bl (isPlace p most)) H
theorem sc_is_place : FnScope ["place", "most_under"] ["place", "most_under"] (defScope (top 29)) := ⟨rfl, rfl, rfl, by decide +kernel, rfl, by decide +kernel, by decide +kernel⟩
theorem fn_is_place (T : Txt K mg C) : Fn P w K mg base "is_place" ["place", "most_under"] 2 (spIsP K) := by
  have G_common_divisor : Fn P w K mg base "common_divisor" _ 1 spGcd := fn_common_divisor T
  refine T.d_is_place.fn sc_is_place (fun vs H Q E h => ?_) (fun f cdv A outer s H vs Q E hr h => ?_)
  · obtain ⟨x, p, m, rfl, _⟩ := h
    rfl
  · obtain ⟨x, p, most, rfl, ⟨a, rfl, ha⟩, k⟩ := h
    refine ⟨_, (pss_one (ps_ret (pe_and (pe_chain op_le op_le pe_int (pe_ix ix_tup (pv 0) pe_int (fun _ _ => rfl)) (pv 1)) (pe_one (pe_cmpR op_eq (pe_fn G_common_divisor hr (pa_cons (pe_ix ix_tup (pv 0) pe_int (fun _ _ => rfl)) (pa_cons (pe_ix ix_tup (pv 0) pe_int (fun _ _ => rfl)) pa_nil))) pe_int (nomark _)))))), ?_⟩
    unfold isPlace at k
    refine ⟨_, rfl, _, _, _, _, rfl, rfl, ha, rfl, _, _, rfl, rfl, _, rfl, ?_⟩
    by_cases h1 : 1 ≤ p.2
    · rw [decide_eq_true (show (1 : Int) ≤ (p.2 : Int) by omega)]
      rw [decide_eq_true h1, Bool.true_and] at k
      refine iteT ⟨_, rfl, _, _, rfl, rfl, _, rfl, ?_⟩
      by_cases h2 : p.2 ≤ most
      · rw [decide_eq_true (show (p.2 : Int) ≤ (most : Int) by omega)]
        rw [decide_eq_true h2, Bool.true_and] at k
        refine iteT ⟨_, rfl, _, _, _, _, rfl, rfl, ha, rfl, _, rfl, _, _, _, _, rfl, rfl, ha, rfl, p.1, p.2, rfl, rfl, ?_⟩
        have e : decide (V.int ((Nat.gcd p.1 p.2 : Nat) : Int) = V.int 1) = decide (Nat.gcd p.1 p.2 = 1) := by
          refine decide_eq_decide.mpr ⟨fun z => ?_, fun z => by rw [z]; rfl⟩
          injection z with z
          omega
        rw [e]
        exact k
      · rw [decide_eq_false (show ¬ (p.2 : Int) ≤ (most : Int) by omega)]
        rw [decide_eq_false h2, Bool.false_and] at k
        exact iteF k
    · rw [decide_eq_false (show ¬ (1 : Int) ≤ (p.2 : Int) by omega)]
      rw [decide_eq_false h1, Bool.false_and, Bool.false_and] at k
      exact iteF ⟨_, rfl, iteF k⟩
def spWith (K : PySem.W.Frag) : Sp := fun vs H Q _ => ∃ x y p s, vs = [x, y] ∧ PlV K H x p ∧ StV K H y s ∧ Sz 1000 p ∧ Sz 1000 s.1 ∧ Sz 1000 s.2 ∧ Q (.bl (within p s)) H
theorem sc_is_within : FnScope ["place", "stretch"] ["place", "stretch"] (defScope (top 30)) := ⟨rfl, rfl, rfl, by decide +kernel, rfl, by decide +kernel, by decide +kernel⟩
theorem fn_is_within (T : Txt K mg C) : Fn P w K mg base "is_within" ["place", "stretch"] 2 (spWith K) := by
  have G_is_up_to : Fn P w K mg base "is_up_to" _ 1 (spUp K) := fn_is_up_to T
  refine T.d_is_within.fn sc_is_within (fun vs H Q E h => ?_) (fun f cdv A outer s H vs Q E hr h => ?_)
  · obtain ⟨x, y, p, s, rfl, _⟩ := h
    rfl
  · obtain ⟨x, y, p, s, rfl, hp, ⟨b, y1, y2, rfl, hb, h1, h2⟩, sp, s1, s2, k⟩ := h
    refine ⟨_, (pss_one (ps_ret (pe_and (pe_fn G_is_up_to hr (pa_cons (pe_ix ix_tup (pv 1) pe_int (fun _ _ => rfl)) (pa_cons (pv 0) pa_nil))) (pe_one (pe_fn G_is_up_to hr (pa_cons (pv 0) (pa_cons (pe_ix ix_tup (pv 1) pe_int (fun _ _ => rfl)) pa_nil))))))), ?_⟩
    unfold within at k
    refine ⟨_, rfl, _, _, _, _, rfl, rfl, hb, rfl, _, rfl, _, _, s.1, p, rfl, h1, hp, s1, sp, _, rfl, ?_⟩
    cases e : le s.1 p with
    | true =>
      rw [e, Bool.true_and] at k
      exact iteT ⟨_, rfl, _, rfl, _, _, _, _, rfl, rfl, hb, rfl, _, _, p, s.2, rfl, hp, h2, sp, s2, k⟩
    | false =>
      rw [e, Bool.false_and] at k
      exact iteF k
def spCut (K : PySem.W.Frag) : Sp := fun vs H Q _ => ∃ x y z s f g, ∃ most : Nat, vs = [x, y, z, .int most] ∧ StV K H x s ∧ PlV K H y f ∧ PlV K H z g ∧ most < 2 ^ 1000 ∧ Sz 1000 s.1 ∧ Sz 1000 s.2 ∧ f.1 < 2 ^ 1000 ∧ f.2 < 2 ^ 1000 ∧ g.1 < 2 ^ 1000 ∧ g.2 < 2 ^ 1000 ∧ Q (.bl (mayCut s f g most)) H
theorem sc_may_cut : FnScope ["stretch", "first", "second", "most_under"] ["stretch", "first", "second", "most_under"] (defScope (top 31)) := ⟨rfl, rfl, rfl, by decide +kernel, rfl, by decide +kernel, by decide +kernel⟩
theorem fn_may_cut (T : Txt K mg C) : Fn P w K mg base "may_cut" ["stretch", "first", "second", "most_under"] 3 (spCut K) := by
  have G_is_up_to : Fn P w K mg base "is_up_to" _ 1 (spUp K) := fn_is_up_to T
  have G_is_place : Fn P w K mg base "is_place" _ 2 (spIsP K) := fn_is_place T
  have G_is_within : Fn P w K mg base "is_within" _ 2 (spWith K) := fn_is_within T
  refine T.d_may_cut.fn sc_may_cut (fun vs H Q E h => ?_) (fun f cdv A outer s H vs Q E hr h => ?_)
  · obtain ⟨x, y, z, s, f, g, m, rfl, _⟩ := h
    rfl
  · obtain ⟨x, y, z, s, f, g, most, rfl, hs, hf, hg, hm, s1, s2, f1, f2, g1, g2, k⟩ := h
    refine ⟨_, (pss_cons (ps_if (PW.pt (pw_or (pt_not (pt_val (pe_fn G_is_place hr (pa_cons (pv 1) (pa_cons (pv 3) pa_nil))))) (pw_or1 (pt_not (pt_val (pe_fn G_is_place hr (pa_cons (pv 2) (pa_cons (pv 3) pa_nil)))))))) (pss_one (ps_ret pe_bl)) pss_nil) (pss_one (ps_ret (pe_and (pe_fn G_is_within hr (pa_cons (pv 1) (pa_cons (pv 0) pa_nil))) (pe_and (pe_fn G_is_within hr (pa_cons (pv 2) (pa_cons (pv 0) pa_nil))) (pe_one (pe_fn G_is_up_to hr (pa_cons (pv 1) (pa_cons (pv 2) pa_nil))))))))), ?_⟩
    unfold mayCut at k
    refine ⟨_, rfl, _, rfl, _, f, most, rfl, hf, _, rfl, ?_⟩
    cases e1 : isPlace f most with
    | false =>
      rw [e1, Bool.false_and, Bool.false_and] at k
      exact iteT (iteT k)
    | true =>
      rw [e1, Bool.true_and] at k
      refine iteF ⟨_, rfl, _, rfl, _, g, most, rfl, hg, _, rfl, ?_⟩
      cases e2 : isPlace g most with
      | false =>
        rw [e2, Bool.false_and] at k
        exact iteT k
      | true =>
        rw [e2, Bool.true_and] at k
        have sf : Sz 1000 f := ⟨f1, f2, isAt_pos (isPlace_iff.mp e1).1⟩
        have sg : Sz 1000 g := ⟨g1, g2, isAt_pos (isPlace_iff.mp e2).1⟩
        refine iteF ⟨_, rfl, _, rfl, _, _, f, s, rfl, hf, hs, sf, s1, s2, _, rfl, ?_⟩
        cases e3 : within f s with
        | false =>
          rw [e3, Bool.false_and] at k
          exact iteF k
        | true =>
          rw [e3, Bool.true_and] at k
          refine iteT ⟨_, rfl, _, rfl, _, _, g, s, rfl, hg, hs, sg, s1, s2, _, rfl, ?_⟩
          cases e4 : within g s with
          | false =>
            rw [e4, Bool.false_and] at k
            exact iteF k
          | true =>
            rw [e4, Bool.true_and] at k
            exact iteT ⟨_, rfl, _, rfl, _, _, f, g, rfl, hf, hg, sf, sg, k⟩
def spTrm (K : PySem.W.Frag) : Sp := fun vs H Q _ => ∃ x y s f, vs = [x, y] ∧ StV K H x s ∧ PlV K H y f ∧ Sz 1000 s.1 ∧ Sz 1000 s.2 ∧ f.1 < 2 ^ 1000 ∧ f.2 < 2 ^ 1000 ∧ Q (.bl (mayTrim s f)) H
theorem sc_may_trim : FnScope ["piece", "place"] ["piece", "place"] (defScope (top 32)) := ⟨rfl, rfl, rfl, by decide +kernel, rfl, by decide +kernel, by decide +kernel⟩
theorem fn_may_trim (T : Txt K mg C) : Fn P w K mg base "may_trim" ["piece", "place"] 3 (spTrm K) := by
  have G_is_place : Fn P w K mg base "is_place" _ 2 (spIsP K) := fn_is_place T
  have G_is_within : Fn P w K mg base "is_within" _ 2 (spWith K) := fn_is_within T
  refine T.d_may_trim.fn sc_may_trim (fun vs H Q E h => ?_) (fun f cdv A outer s H vs Q E hr h => ?_)
  · obtain ⟨x, y, s, f, rfl, _⟩ := h
    rfl
  · obtain ⟨x, y, s, f, rfl, hs, hf, s1, s2, f1, f2, k⟩ := h
    refine ⟨_, (pss_one (ps_ret (pe_and (pe_fn G_is_place hr (pa_cons (pv 1) (pa_cons (pe_ci T.c_TRIM_UNDER) pa_nil))) (pe_one (pe_fn G_is_within hr (pa_cons (pv 1) (pa_cons (pv 0) pa_nil))))))), ?_⟩
    unfold mayTrim at k
    refine ⟨_, rfl, _, f, 17179869184, rfl, hf, _, rfl, ?_⟩
    cases e1 : isPlace f 17179869184 with
    | false =>
      rw [e1, Bool.false_and] at k
      exact iteF k
    | true =>
      rw [e1, Bool.true_and] at k
      exact iteT ⟨_, rfl, _, rfl, _, _, f, s, rfl, hf, hs, ⟨f1, f2, isAt_pos (isPlace_iff.mp e1).1⟩, s1, s2, k⟩
/-! ### cut_in_three, third_of -/
def spThree (K : PySem.W.Frag) : Sp := fun vs H Q _ => ∃ x y z s f g, vs = [x, y, z] ∧ StV K H x s ∧ PlV K H y f ∧ PlV K H z g ∧ ∀ H' l xs, Same H H' → H l = none → H' l = some (.lst xs) → Sts K H' xs (three s f g) → Q (.ref l) H'
theorem sc_cut_in_three : FnScope ["stretch", "first", "second"] ["stretch", "first", "second"] (defScope (top 33)) := ⟨rfl, rfl, rfl, by decide +kernel, rfl, by decide +kernel, by decide +kernel⟩
theorem fn_cut_in_three (T : Txt K mg C) : Fn P w K mg base "cut_in_three" ["stretch", "first", "second"] 1 (spThree K) := by
  refine T.d_cut_in_three.fn sc_cut_in_three (fun vs H Q E h => ?_) (fun f cdv A outer s H vs Q E hr h => ?_)
  · obtain ⟨x, y, z, s, f, g, rfl, _⟩ := h
    rfl
  · obtain ⟨x, y, z, s, f, g, rfl, ⟨b, y1, y2, rfl, hb, h1, h2⟩, hf, hg, k⟩ := h
    refine ⟨_, (pss_one (ps_ret (pe_lst (pa_cons (pe_tup (pa_cons (pe_ix ix_tup (pv 0) pe_int (fun _ _ => rfl)) (pa_cons (pv 1) pa_nil))) (pa_cons (pe_tup (pa_cons (pv 1) (pa_cons (pv 2) pa_nil))) (pa_cons (pe_tup (pa_cons (pv 2) (pa_cons (pe_ix ix_tup (pv 0) pe_int (fun _ _ => rfl)) pa_nil))) pa_nil)))))), ?_⟩
    refine ⟨_, rfl, _, _, _, _, rfl, rfl, hb, rfl, _, rfl, (by show 2 ≤ sizeLine; decide), fun p1 n1 => ?_⟩
    have e1 := same_new (o := .tup [y1, y]) n1
    refine ⟨_, rfl, _, rfl, (by show 2 ≤ sizeLine; decide), fun p2 n2 => ?_⟩
    have e2 := e1.trans (same_new (o := .tup [y, z]) n2)
    have hb2 := Same.tup e2 hb
    refine ⟨_, rfl, _, rfl, _, _, _, _, rfl, rfl, hb2, rfl, (by show 2 ≤ sizeLine; decide), fun p3 n3 => ?_⟩
    have e3 := e2.trans (same_new (o := .tup [z, y2]) n3)
    refine ⟨(by show 3 ≤ sizeLine; decide), fun l nl => ?_⟩
    have e4 := e3.trans (same_new (o := .lst [.ref p1, .ref p2, .ref p3]) nl)
    refine k _ l _ e4 (e3.free nl) upd_same ?_
    have q1 : StV K (upd H p1 (.tup [y1, y])) (.ref p1) (s.1, f) := StV.new n1 h1 hf
    have q2 := StV.new (s := (f, g)) n2 (hf.mono e1) (hg.mono e1)
    have q3 := StV.new (s := (g, s.2)) n3 (hg.mono e2) (h2.mono e2)
    exact .cons (((q1.mono (same_new n2)).mono (same_new n3)).mono (same_new nl)) (.cons ((q2.mono (same_new n3)).mono (same_new nl)) (.cons (q3.mono (same_new nl)) .nil))
def spThird : Sp := fun vs H Q _ => ∃ i j : Int, vs = [.int i, .int j] ∧ Q (.int (3 - i - j)) H
theorem sc_third_of : FnScope ["first", "second"] ["first", "second"] (defScope (top 34)) := ⟨rfl, rfl, rfl, by decide +kernel, rfl, by decide +kernel, by decide +kernel⟩
theorem fn_third_of (T : Txt K mg C) : Fn P w K mg base "third_of" ["first", "second"] 1 spThird := by
  refine T.d_third_of.fn sc_third_of (fun vs H Q E h => ?_) (fun f cdv A outer s H vs Q E hr h => ?_)
  · obtain ⟨x, y, rfl, _⟩ := h
    rfl
  · obtain ⟨i, j, rfl, k⟩ := h
    exact ⟨_, (pss_one (ps_ret (pe_op op_sub (pe_op op_sub pe_int (pv 0)) (pv 1)))), _, rfl, _, _, rfl, rfl, _, rfl, _, _, rfl, rfl, k⟩
end
end Ck

set_option Elab.async false
set_option linter.all false
set_option maxRecDepth 100000
set_option maxHeartbeats 2000000
namespace Ck
open PySem PySem.Spec PyProof.Rows L2
open Kv204 (lowest plus minus le best)
section
variable {P : Program} {w : World} {K : PySem.W.Frag} {mg : Str → Option Value} {base : Heap} {C : Addr}
abbrev nv (w : List Nat) : List V := w.map fun (n : Nat) => V.int (n : Int)
/-! ### mark -/
theorem cut_to (ws : List Nat) (c : Nat) (h : c ≤ ws.length) : cutV (nv ws) none (some (c : Int)) = ((ws.take c).map Int.ofNat).map V.int := by
  unfold cutV
  rw [HT.sIx_none, HT.sIx_nat, List.length_map, Nat.min_eq_left h, Nat.sub_zero, List.drop_zero, ← List.map_take, List.map_map]
  rfl
theorem sum_nat : ∀ l : List Nat, (l.map Int.ofNat).sum = ((l.sum : Nat) : Int)
  | [] => rfl
  | a :: l => by
    rw [List.map_cons, List.sum_cons, List.sum_cons, sum_nat l]
    rfl
def spMark (K : PySem.W.Frag) : Sp := fun vs H Q _ => ∃ x y n q, ∃ ws : Kv204.Worth, vs = [x, y] ∧ WoV K H x ws ∧ PlV K H y q ∧ OkW n ws ∧ OkP n q ∧ ∀ H' v, Same H H' → PlV K H' v (lowest (ws.mark q)) → Q v H'
theorem sc_mark : FnScope ["worth", "place", "cell", "before", "inside"] ["worth", "place"] (defScope (top 35)) := ⟨rfl, rfl, rfl, by decide +kernel, rfl, by decide +kernel, by decide +kernel⟩
theorem fn_mark (T : Txt K mg C) : Fn P w K mg base "mark" ["worth", "place"] 3 (spMark K) := by
  have G_lowest : Fn P w K mg base "lowest" _ 2 (spLow K) := fn_lowest T
  refine T.d_mark.fn sc_mark (fun vs H Q E h => ?_) (fun f cdv A outer s H vs Q E hr h => ?_)
  · obtain ⟨x, y, n, q, ws, rfl, _⟩ := h
    rfl
  · obtain ⟨x, y, n, q, ws, rfl, ⟨a, rfl, ha⟩, ⟨b, rfl, hb⟩, hw, hq, k⟩ := h
    refine ⟨_, (pss_cons (ps_set (i := 2) sc_mark.nd rfl (Or.inl rfl) (pe_op op_fdivB (pe_ix ix_tup (pv 1) pe_int (fun _ _ => rfl)) (pe_ix ix_tup (pv 1) pe_int (fun _ _ => rfl)))) (pss_cons (ps_set (i := 3) sc_mark.nd rfl (Or.inl rfl) (pe_callB (cr_sum rfl) (by rfl) T.b_sum bt_sum (pa_cons (pe_slice sl_list (pv 0) po_none (po_some (pv 2))) pa_nil))) (pss_cons (ps_if (pt_cmpR op_eq (pv 2) (pe_callB call_len_seq (by rfl) T.b_len bt_len (pa_cons (pv 0) pa_nil)) (nomark _)) (pss_one (ps_ret (pe_tup (pa_cons (pv 3) (pa_cons pe_int pa_nil))))) pss_nil) (pss_cons (ps_set (i := 4) sc_mark.nd rfl (Or.inl rfl) (pe_op op_mod (pe_ix ix_tup (pv 1) pe_int (fun _ _ => rfl)) (pe_ix ix_tup (pv 1) pe_int (fun _ _ => rfl)))) (pss_one (ps_ret (pe_fn G_lowest hr (pa_cons (pe_op op_add (pe_op op_mulB (pv 3) (pe_ix ix_tup (pv 1) pe_int (fun _ _ => rfl))) (pe_op op_mulB (pe_ix ix_list (pv 0) (pv 2) (fun _ _ => rfl)) (pv 4))) (pa_cons (pe_ix ix_tup (pv 1) pe_int (fun _ _ => rfl)) pa_nil))))))))), ?_⟩
    have q0 := hq.pos
    have sq := hq.sz hw.most
    have b2 : Bt (q.2 : Int) := .of sq.two (by decide)
    have hc : q.1 / q.2 ≤ ws.length := by
      rw [hw.len]
      exact Nat.div_le_of_le_mul (by have := hq.le; rw [Nat.mul_comm]; exact this)
    refine ⟨_, rfl, _, _, _, _, rfl, rfl, hb, rfl, _, rfl, _, _, _, _, rfl, rfl, hb, rfl, _, _, rfl, rfl, ⟨(by show (0 : Int) < (q.2 : Int); omega), b2⟩, ?_⟩
    refine ⟨_, rfl, _, rfl, ((q.1 / q.2 : Nat) : Int), rfl, a, _, rfl, ha, fun p hp => ?_⟩
    refine ⟨p, (ws.take (q.1 / q.2)).map Int.ofNat, rfl, SqL.of (Eq.trans upd_same (congrArg (fun z => some (HO.lst z)) (cut_to ws _ hc))), ?_⟩
    rw [sum_nat]
    have e1 := same_new (o := .lst (cutV (nv ws) none (some ((q.1 / q.2 : Nat) : Int)))) hp
    refine ⟨_, rfl, _, rfl, a, _, rfl, .inl (e1.seq ha), rfl, decide (q.1 / q.2 = ws.length), ?_, iteD (fun hl => ?_) (fun hl => ?_)⟩
    · rw [List.length_map]
      exact dI (q.1 / q.2) ws.length
    · refine ⟨_, rfl, (by show 2 ≤ sizeLine; decide), fun p2 hp2 => ?_⟩
      refine k _ _ (e1.trans (same_new hp2)) ?_
      rw [mark_end q0 (by rw [hw.len]; exact hq.le) hl]
      exact PlV.new (ws.before (q.1 / q.2), 1)
    · have hlt : q.1 / q.2 < ws.length := Nat.lt_of_le_of_ne hc hl
      have hg : ws[q.1 / q.2]? = some (ws.getD (q.1 / q.2) 0) := by
        rw [List.getD_eq_getElem?_getD, List.getElem?_eq_getElem hlt]
        rfl
      have hb1 := Same.tup e1 hb
      have ha1 := e1.seq ha
      have hsum : ws.before (q.1 / q.2) < 2 ^ 20 := by
        have h1 := before_mono ws hc
        rw [before_all ws (Nat.le_refl _)] at h1
        have h2 := hw.sum
        have : (2:Nat) ^ 20 = 1048576 := by decide
        omega
      have hgb : ws.getD (q.1 / q.2) 0 < 2 ^ 20 := by
        have h1 := hw.each _ (List.mem_of_getElem? hg)
        have : (2:Nat) ^ 20 = 1048576 := by decide
        omega
      refine ⟨_, rfl, _, _, _, _, rfl, rfl, hb1, rfl, _, rfl, _, _, _, _, rfl, rfl, hb1, rfl, _, _, rfl, rfl, (by show (0 : Int) < (q.2 : Int); omega), ?_⟩
      refine ⟨_, rfl, _, rfl, _, _, _, _, rfl, rfl, hb1, rfl, _, _, rfl, rfl, ⟨.of hsum (by decide), b2⟩, _, rfl, _, rfl, _, _, _, _, rfl, rfl, ha1, atI_nat (WoV.get hg), _, rfl, _, _, rfl, rfl, ⟨.of hgb (by decide), .nat (Nat.lt_of_lt_of_le (Nat.mod_lt _ q0) (Nat.le_trans (Nat.le_of_lt sq.two) (Nat.pow_le_pow_right (by decide) (by decide))))⟩, _, _, rfl, rfl, _, rfl, _, _, _, _, rfl, rfl, hb1, rfl,
        (ws.mark q).1, q.2, rfl, q0, Nat.lt_of_lt_of_le sq.two (Nat.pow_le_pow_right (by decide) (by decide)), fun H' v e hv => k H' v (e1.trans e) hv⟩
/-! ### stretch_worth -/
theorem Sz.to {b : Nat} {p : Kv204.At} (h : Sz b p) (hb : b ≤ 1000 := by decide) : Sz 1000 p := h.mono hb
def spWorth (K : PySem.W.Frag) : Sp := fun vs H Q _ => ∃ x y n s, ∃ ws : Kv204.Worth, vs = [x, y] ∧ WoV K H x ws ∧ StV K H y s ∧ OkW n ws ∧ OkS n s ∧ ∀ H' v, Same H H' → PlV K H' v (lowest (ws.of_ s)) → Q v H'
theorem worth_eq {n : Nat} {s : Kv204.Stretch} {ws : Kv204.Worth} (hs : OkS n s) : lowest (minus (lowest (ws.mark s.2)) (lowest (ws.mark s.1))) = lowest (ws.of_ s) :=
  lowest_congr (minus_pos (lowest_pos (p := ws.mark s.2) hs.b.pos) (lowest_pos (p := ws.mark s.1) hs.a.pos)) (of_pos ws hs) (minus_congr (lowest_eqf (p := ws.mark s.2) hs.b.pos) (lowest_eqf (p := ws.mark s.1) hs.a.pos))
theorem sc_stretch_worth : FnScope ["worth", "stretch"] ["worth", "stretch"] (defScope (top 36)) := ⟨rfl, rfl, rfl, by decide +kernel, rfl, by decide +kernel, by decide +kernel⟩
theorem fn_stretch_worth (T : Txt K mg C) : Fn P w K mg base "stretch_worth" ["worth", "stretch"] 4 (spWorth K) := by
  have G_mark : Fn P w K mg base "mark" _ 3 (spMark K) := fn_mark T
  have G_less : Fn P w K mg base "less" _ 3 (spLess K) := fn_less T
  refine T.d_stretch_worth.fn sc_stretch_worth (fun vs H Q E h => ?_) (fun f cdv A outer s H vs Q E hr h => ?_)
  · obtain ⟨x, y, n, s, ws, rfl, _⟩ := h
    rfl
  · obtain ⟨x, y, n, s, ws, rfl, hx, ⟨b, y1, y2, rfl, hb, h1, h2⟩, hw, hs, k⟩ := h
    refine ⟨_, (pss_one (ps_ret (pe_fn G_less hr (pa_cons (pe_fn G_mark hr (pa_cons (pv 0) (pa_cons (pe_ix ix_tup (pv 1) pe_int (fun _ _ => rfl)) pa_nil))) (pa_cons (pe_fn G_mark hr (pa_cons (pv 0) (pa_cons (pe_ix ix_tup (pv 1) pe_int (fun _ _ => rfl)) pa_nil))) pa_nil))))), ?_⟩
    refine ⟨_, rfl, _, rfl, _, _, _, _, rfl, rfl, hb, rfl, _, _, n, s.2, ws, rfl, hx, h2, hw, hs.b, fun H1 v1 e1 p1 => ?_⟩
    have hb1 := Same.tup e1 hb
    refine ⟨_, rfl, _, rfl, _, _, _, _, rfl, rfl, hb1, rfl, _, _, n, s.1, ws, rfl, hx.mono e1, h1.mono e1, hw, hs.a, fun H2 v2 e2 p2 => ?_⟩
    refine ⟨_, _, _, _, rfl, p1.mono e2, p2, (mark_sz hw hs.b).low.to, (mark_sz hw hs.a).low.to, ?_, fun H3 v3 e3 p3 => ?_⟩
    · exact Le.congr (p := ws.mark s.1) (q := ws.mark s.2) hs.a.pos hs.b.pos (lowest_eqf (p := ws.mark s.1) hs.a.pos).symm (lowest_eqf (p := ws.mark s.2) hs.b.pos).symm (mark_mono hs.a.pos hs.b.pos hs.le)
    · rw [worth_eq hs] at p3
      exact k H3 v3 ((e1.trans e2).trans e3) p3
/-! ### first_place_with -/
theorem eqv_pl (a b c d : Int) : PyData.eqv (.tuple [.int a, .int b]) (.tuple [.int c, .int d]) = decide (a = c ∧ b = d) := by
  rw [Bool.eq_iff_iff]
  simp [PyData.eqv, PyData.eqvAll]
theorem PlV.dp {H : Hp} {x : V} {p : Kv204.At} (h : PlV K H x p) : Dp K H x (.tuple [.int (p.1 : Int), .int (p.2 : Int)]) := by
  obtain ⟨a, rfl, h⟩ := h
  exact .tup h (.cons (.int _) (.cons (.int _) .nil))
theorem eqv_at (p q : Kv204.At) : PyData.eqv (.tuple [.int (p.1 : Int), .int (p.2 : Int)]) (.tuple [.int (q.1 : Int), .int (q.2 : Int)]) = decide (p = q) := by
  rw [eqv_pl]
  refine decide_eq_decide.mpr ⟨fun ⟨h1, h2⟩ => Prod.ext (by omega) (by omega), fun h => by rw [h]; exact ⟨rfl, rfl⟩⟩
def spFirst (K : PySem.W.Frag) : Sp := fun vs H Q _ => ∃ x y z n b v, ∃ ws : Kv204.Worth, vs = [x, y, z] ∧ WoV K H x ws ∧ PlV K H y b ∧ PlV K H z v ∧ OkW n ws ∧ OkP n b ∧ Sz 1000 v ∧ lowest v = v ∧ Le (ws.mark b) v ∧ Le v (ws.sum, 1) ∧
  ∀ H' r, Same H H' → PlV K H' r (from_ ws b v) → Q r H'
theorem raw_val {ws : Kv204.Worth} {v : Kv204.At} {i : Nat} (c : Cell ws v i) :
    ((i : Int) * ((v.2 : Int) * (ws.getD i 0 : Nat)) + (v.1 : Int) - (ws.before i : Nat) * (v.2 : Int)) = ((raw ws v i).1 : Nat) := by
  have h := c.lo
  show _ = ((i * (v.2 * ws.getD i 0) + (v.1 - ws.before i * v.2) : Nat) : Int)
  have e1 : ((v.1 - ws.before i * v.2 : Nat) : Int) = (v.1 : Int) - ((ws.before i * v.2 : Nat) : Int) := Int.ofNat_sub (Nat.le_of_lt h)
  have e2 : ((ws.before i * v.2 : Nat) : Int) = ((ws.before i : Nat) : Int) * (v.2 : Int) := rfl
  have e3 : ((i * (v.2 * ws.getD i 0) + (v.1 - ws.before i * v.2) : Nat) : Int) = (i : Int) * ((v.2 : Int) * (ws.getD i 0 : Nat)) + ((v.1 - ws.before i * v.2 : Nat) : Int) := rfl
  rw [e3, e1, e2]
  omega
theorem sc_first_place_with : FnScope ["worth", "begin", "wanted", "cell", "before", "under"] ["worth", "begin", "wanted"] (defScope (top 37)) := ⟨rfl, rfl, rfl, by decide +kernel, rfl, by decide +kernel, by decide +kernel⟩
theorem fn_first_place_with (T : Txt K mg C) : Fn P w K mg base "first_place_with" ["worth", "begin", "wanted"] 4 (spFirst K) := by
  have G_mark : Fn P w K mg base "mark" _ 3 (spMark K) := fn_mark T
  have G_lowest : Fn P w K mg base "lowest" _ 2 (spLow K) := fn_lowest T
  have G_is_up_to : Fn P w K mg base "is_up_to" _ 1 (spUp K) := fn_is_up_to T
  refine T.d_first_place_with.fn sc_first_place_with (fun vs H Q E h => ?_) (fun f cdv A outer s H vs Q E hr h => ?_)
  · obtain ⟨x, y, z, n, b, v, ws, rfl, _⟩ := h
    rfl
  · obtain ⟨x, y, z, n, b, v, ws, rfl, hx, hy, hz, hw, hb, sv, lv, h1, h2, k⟩ := h
    refine ⟨_, (pss_cons (ps_if (pt_cmpR (op_eqD hr.units) (pe_fn G_mark hr (pa_cons (pv 0) (pa_cons (pv 1) pa_nil))) (pv 2) (nomark _)) (pss_one (ps_ret (pv 1))) pss_nil) (pss_cons (ps_set (i := 3) sc_first_place_with.nd rfl (Or.inl rfl) pe_int) (pss_cons (ps_set (i := 4) sc_first_place_with.nd rfl (Or.inl rfl) pe_int) (pss_cons (ps_while PassesOwn.never (pt_not (pt_val (pe_fn G_is_up_to hr (pa_cons (pv 2) (pa_cons (pe_tup (pa_cons (pe_op op_add (pv 4) (pe_ix ix_list (pv 0) (pv 3) (fun _ _ => rfl))) (pa_cons pe_int pa_nil))) pa_nil))))) (pss_cons (ps_aug (i := 4) sc_first_place_with.nd rfl (Or.inl rfl) (pe_ix ix_list (pv 0) (pv 3) (fun _ _ => rfl)) ip_add) (pss_one (ps_aug (i := 3) sc_first_place_with.nd rfl (Or.inl rfl) pe_int ip_add)))) (pss_cons (ps_set (i := 5) sc_first_place_with.nd rfl (Or.inl rfl) (pe_op op_mulB (pe_ix ix_tup (pv 2) pe_int (fun _ _ => rfl)) (pe_ix ix_list (pv 0) (pv 3) (fun _ _ => rfl)))) (pss_one (ps_ret (pe_fn G_lowest hr (pa_cons (pe_op op_sub (pe_op op_add (pe_op op_mulB (pv 3) (pv 5)) (pe_ix ix_tup (pv 2) pe_int (fun _ _ => rfl))) (pe_op op_mulB (pv 4) (pe_ix ix_tup (pv 2) pe_int (fun _ _ => rfl)))) (pa_cons (pv 5) pa_nil)))))))))), ?_⟩
    have v2 := sv.pos
    refine ⟨_, rfl, _, rfl, _, _, n, b, ws, rfl, hx, hy, hw, hb, fun H1 r1 e1 p1 => ?_⟩
    refine ⟨_, rfl, _, _, p1.dp, (hz.mono e1).dp, rfl, rfl, _, rfl, ?_⟩
    rw [eqv_at]
    by_cases he : lowest (ws.mark b) = v
    · rw [decide_eq_true he]
      refine iteT ⟨_, rfl, k _ _ e1 ?_⟩
      have hq : Eqf (ws.mark b) v := eqf_of_lowest hb.pos v2 (by rw [he, lv])
      rw [from_here v2 (hb.in_ hw.len) hq]
      exact hy.mono e1
    · rw [decide_eq_false he]
      refine iteF ?_
      have hn : ¬ Le v (ws.mark b) := fun z => he (by rw [← lv]; exact lowest_congr hb.pos v2 (h1.anti z))
      have hfr := from_later v2 hb.pos h2 hn
      have v1 : 0 < v.1 := by
        apply Nat.pos_of_ne_zero
        intro e
        apply hn
        show v.1 * _ ≤ _
        rw [e]
        omega
      have ci := idx_cell (w := ws) (v := v) v1 h2
      generalize hI : idx ws v = I at ci
      refine ⟨fun m σ H' => Same H H' ∧ ∃ i : Nat, σ = [some x, some y, some z, some (.int i), some (.int (ws.before i : Nat)), none] ∧ i ≤ I ∧ ws.before i * v.2 < v.1 ∧ m = I - i, ⟨I, e1, 0, rfl, Nat.zero_le _, ?_, rfl⟩, ?_⟩
      · show 0 * v.2 < v.1
        omega
      · rintro m σ H2 ⟨e2, i, rfl, hi, hlo, rfl⟩
        have hlt : i < ws.length := Nat.lt_of_le_of_lt hi ci.lt
        have hg : ws[i]? = some (ws.getD i 0) := by
          rw [List.getD_eq_getElem?_getD, List.getElem?_eq_getElem hlt]
          rfl
        obtain ⟨a, ea, ha⟩ := hx.mono e2
        have eb := before_succ ws i
        have hsum : ws.before (i + 1) ≤ 64000 := by
          have z1 := before_mono ws (show i + 1 ≤ ws.length from hlt)
          rw [before_all ws (Nat.le_refl _)] at z1
          exact Nat.le_trans z1 hw.sum
        have p20 : (2:Nat) ^ 20 = 1048576 := by decide
        refine ⟨_, rfl, _, rfl, _, rfl, _, rfl, _, _, _, _, ea, rfl, ha, atI_nat (WoV.get hg), _, _, rfl, rfl, (by show 2 ≤ sizeLine; decide), fun t ht => ?_⟩
        have e3 := e2.trans (same_new (o := .tup [.int ((ws.before i : Nat) + (ws.getD i 0 : Nat)), .int 1]) ht)
        have pn : PlV K (upd H2 t (.tup [.int ((ws.before i : Nat) + (ws.getD i 0 : Nat)), .int 1])) (.ref t) (ws.before i + ws.getD i 0, 1) := PlV.new (ws.before i + ws.getD i 0, 1)
        refine ⟨_, _, v, (ws.before i + ws.getD i 0, 1), rfl, hz.mono e3, pn, sv, (show Sz 20 (ws.before i + ws.getD i 0, 1) from ⟨by show ws.before i + ws.getD i 0 < _; omega, by show 1 < 2 ^ 20; decide, Nat.one_pos⟩).to, _, rfl, ?_⟩
        rw [← eb]
        cases hup : le v (ws.before (i + 1), 1) with
        | false =>
          have hnup : ¬ v.1 * 1 ≤ ws.before (i + 1) * v.2 := fun z => by
            have := le_iff.mpr (show Le v (ws.before (i + 1), 1) from z)
            rw [hup] at this
            cases this
          refine iteT ?_
          refine ⟨fun σ' H' => Same H H' ∧ σ' = [some x, some y, some z, some (.int ((i + 1 : Nat) : Int)), some (.int (ws.before (i + 1) : Nat)), none], ?_, ?_⟩
          · rintro σ' H' ⟨e4, rfl⟩
            have hne : i ≠ I := fun z => hnup (by have := ci.hi; rw [← z] at this; omega)
            exact ⟨I - (i + 1), by omega, e4, i + 1, rfl, by omega, by omega, rfl⟩
          · obtain ⟨a', ea', ha'⟩ := hx.mono e3
            refine ⟨_, rfl, _, rfl, _, rfl, _, _, _, _, ea', rfl, ha', atI_nat (WoV.get hg), _, _, rfl, rfl, ?_⟩
            refine ⟨_, rfl, _, _, rfl, rfl, e3, ?_⟩
            rw [eb]
            rfl
        | true =>
          have hup' : v.1 * 1 ≤ ws.before (i + 1) * v.2 := le_iff.mp hup
          have c : Cell ws v i := ⟨hlt, by omega, hlo⟩
          have hgb : ws.getD i 0 ≤ 1000 := hw.each _ (List.mem_of_getElem? hg)
          obtain ⟨a', ea', ha'⟩ := hx.mono e3
          obtain ⟨az, eaz, haz⟩ := hz.mono e3
          have bg : Bt ((ws.getD i 0 : Nat) : Int) := .of (b := 20) (by omega) (by decide)
          have bu : v.2 * ws.getD i 0 < 2 ^ 1020 := mul_lt_pow sv.two (show ws.getD i 0 < 2 ^ 20 by omega)
          have n64 : ws.length ≤ 64 := by rw [hw.len]; exact hw.most
          refine iteF ⟨_, rfl, _, _, _, _, eaz, rfl, haz, rfl, _, rfl, _, rfl, _, _, _, _, ea', rfl, ha', atI_nat (WoV.get hg), _, _, rfl, rfl, ⟨sz_bt2 sv, bg⟩, ?_⟩
          refine ⟨_, rfl, _, rfl, _, _, rfl, rfl, ⟨.of (b := 20) (by omega) (by decide), .of bu (by decide)⟩, _, rfl, _, _, _, _, eaz, rfl, haz, rfl, _, _, rfl, rfl, _, rfl, _, rfl, _, _, _, _, eaz, rfl, haz, rfl, _, _, rfl, rfl, ⟨.of (b := 20) (by omega) (by decide), sz_bt2 sv⟩, _, _, rfl, rfl, _, rfl,
            (raw ws v i).1, v.2 * ws.getD i 0, congrArg (fun z => [V.int z, V.int ((v.2 * ws.getD i 0 : Nat) : Int)]) (raw_val c), Nat.mul_pos v2 c.pos, Nat.lt_of_lt_of_le bu (Nat.pow_le_pow_right (by decide) (by decide)), fun H4 r4 e4 p4 => ?_⟩
          refine k H4 r4 (e3.trans e4) ?_
          rw [hfr, place_eq c]
          exact p4
/-! ### thirds -/
def spThirds (K : PySem.W.Frag) : Sp := fun vs H Q _ => ∃ x y n s, ∃ ws : Kv204.Worth, vs = [x, y] ∧ WoV K H x ws ∧ StV K H y s ∧ OkW n ws ∧ OkS n s ∧ ∀ H' v, Same H H' → StV K H' v (ws.thirds s) → Q v H'
theorem sc_thirds : FnScope ["worth", "stretch", "whole", "third", "first_mark", "second_mark", "first"] ["worth", "stretch"] (defScope (top 38)) := ⟨rfl, rfl, rfl, by decide +kernel, rfl, by decide +kernel, by decide +kernel⟩
theorem fn_thirds (T : Txt K mg C) : Fn P w K mg base "thirds" ["worth", "stretch"] 5 (spThirds K) := by
  have G_mark : Fn P w K mg base "mark" _ 3 (spMark K) := fn_mark T
  have G_lowest : Fn P w K mg base "lowest" _ 2 (spLow K) := fn_lowest T
  have G_added : Fn P w K mg base "added" _ 3 (spAdd K) := fn_added T
  have G_stretch_worth : Fn P w K mg base "stretch_worth" _ 4 (spWorth K) := fn_stretch_worth T
  have G_first_place_with : Fn P w K mg base "first_place_with" _ 4 (spFirst K) := fn_first_place_with T
  refine T.d_thirds.fn sc_thirds (fun vs H Q E h => ?_) (fun f cdv A outer s H vs Q E hr h => ?_)
  · obtain ⟨x, y, n, s, ws, rfl, _⟩ := h
    rfl
  · obtain ⟨x, y, n, s, ws, rfl, hx, ⟨b, y1, y2, rfl, hb, h1, h2⟩, hw, hs, k⟩ := h
    refine ⟨_, (pss_cons (ps_set (i := 2) sc_thirds.nd rfl (Or.inl rfl) (pe_fn G_stretch_worth hr (pa_cons (pv 0) (pa_cons (pv 1) pa_nil)))) (pss_cons (ps_set (i := 3) sc_thirds.nd rfl (Or.inl rfl) (pe_fn G_lowest hr (pa_cons (pe_ix ix_tup (pv 2) pe_int (fun _ _ => rfl)) (pa_cons (pe_op op_mulB pe_int (pe_ix ix_tup (pv 2) pe_int (fun _ _ => rfl))) pa_nil)))) (pss_cons (ps_set (i := 4) sc_thirds.nd rfl (Or.inl rfl) (pe_fn G_added hr (pa_cons (pe_fn G_mark hr (pa_cons (pv 0) (pa_cons (pe_ix ix_tup (pv 1) pe_int (fun _ _ => rfl)) pa_nil))) (pa_cons (pv 3) pa_nil)))) (pss_cons (ps_set (i := 5) sc_thirds.nd rfl (Or.inl rfl) (pe_fn G_added hr (pa_cons (pv 4) (pa_cons (pv 3) pa_nil)))) (pss_cons (ps_set (i := 6) sc_thirds.nd rfl (Or.inl rfl) (pe_fn G_first_place_with hr (pa_cons (pv 0) (pa_cons (pe_ix ix_tup (pv 1) pe_int (fun _ _ => rfl)) (pa_cons (pv 4) pa_nil))))) (pss_one (ps_ret (pe_tup (pa_cons (pv 6) (pa_cons (pe_fn G_first_place_with hr (pa_cons (pv 0) (pa_cons (pe_ix ix_tup (pv 1) pe_int (fun _ _ => rfl)) (pa_cons (pv 5) pa_nil)))) pa_nil)))))))))), ?_⟩
    refine ⟨_, rfl, _, rfl, _, _, n, s, ws, rfl, hx, ⟨b, y1, y2, rfl, hb, h1, h2⟩, hw, hs, fun H1 r1 e1 p1 => ?_⟩
    obtain ⟨a1, rfl, ha1⟩ := p1
    have sw := (of_sz hw hs).low
    have s3 := third_sz hw hs
    refine ⟨_, rfl, _, _, _, _, rfl, rfl, ha1, rfl, _, rfl, _, _, _, _, rfl, rfl, ha1, rfl, _, _, rfl, rfl, ⟨(by unfold Bt; decide), .of sw.two (by decide)⟩, (wholeL ws s).1, 3 * (wholeL ws s).2, rfl, Nat.mul_pos (by decide) (wholeL_pos hs), Nat.lt_of_lt_of_le s3.two (Nat.pow_le_pow_right (by decide) (by decide)), fun H2 r2 e2 p2 => ?_⟩
    have p2 : PlV K H2 r2 (thirdL ws s) := p2
    have e12 := e1.trans e2
    have hb2 := Same.tup e12 hb
    refine ⟨_, rfl, _, rfl, _, _, _, _, rfl, rfl, hb2, rfl, _, _, n, s.1, ws, rfl, hx.mono e12, h1.mono e12, hw, hs.a, fun H3 r3 e3 p3 => ?_⟩
    have e13 := e12.trans e3
    refine ⟨_, rfl, _, _, _, _, rfl, p3, p2.mono e3, (mark_sz hw hs.a).low.to, s3.low.to, fun H4 r4 e4 p4 => ?_⟩
    have p4 : PlV K H4 r4 (mark1 ws s) := p4
    have e14 := e13.trans e4
    refine ⟨_, rfl, _, rfl, _, _, _, _, rfl, p4, p2.mono (e3.trans e4), (mark1_sz hw hs).to, s3.low.to, fun H5 r5 e5 p5 => ?_⟩
    have p5 : PlV K H5 r5 (mark2 ws s) := p5
    have e15 := e14.trans e5
    have hb5 := Same.tup e15 hb
    refine ⟨_, rfl, _, rfl, _, _, _, _, rfl, rfl, hb5, rfl, _, rfl, _, _, _, n, s.1, mark1 ws s, ws, rfl, hx.mono e15, h1.mono e15, p4.mono e5, hw, hs.a, (mark1_sz hw hs).to, lowest_idem (plus_pos (lowest_pos (mkp ws hs)) (thirdL_pos hs)), mark1_ge hs, mark1_le hw.len hs, fun H6 r6 e6 p6 => ?_⟩
    have e16 := e15.trans e6
    have hb6 := Same.tup e16 hb
    refine ⟨_, rfl, _, rfl, _, rfl, _, _, _, _, rfl, rfl, hb6, rfl, _, rfl, _, _, _, n, s.1, mark2 ws s, ws, rfl, hx.mono e16, h1.mono e16, p5.mono e6, hw, hs.a, (mark2_sz hw hs).to, lowest_idem (plus_pos (mark1_pos hs) (thirdL_pos hs)), mark2_ge hs, mark2_le hw.len hs, fun H7 r7 e7 p7 => ?_⟩
    refine ⟨(by show 2 ≤ sizeLine; decide), fun t ht => ?_⟩
    refine k _ _ ((e16.trans e7).trans (same_new ht)) ?_
    rw [thirds_eq hw.len hs]
    exact StV.new (s := (from_ ws s.1 (mark1 ws s), from_ ws s.1 (mark2 ws s))) ht (p6.mono e7) p7
/-! ### worth_most -/
theorem cut_from1 (h : Nat) (t : List Nat) : cutV (nv (h :: t)) (some 1) none = nv t := by
  unfold cutV
  have e : HT.sIx (nv (h :: t)).length 0 (some (1 : Int)) = 1 := by
    rw [show (1 : Int) = ((1 : Nat) : Int) from rfl, HT.sIx_nat]
    show min 1 (List.length (h :: t |>.map _)) = 1
    rw [List.length_map, List.length_cons]
    omega
  rw [e, HT.sIx_none]
  show (nv t).take _ = nv t
  refine List.take_of_length_le ?_
  show (nv t).length ≤ (nv (h :: t)).length - 1
  rw [List.length_map, List.length_map, List.length_cons]
  omega
theorem take_snoc {α : Type} : ∀ {l : List α} {i : Nat} {x : α}, l[i]? = some x → l.take (i + 1) = l.take i ++ [x]
  | [], i, x, h => by simp at h
  | a :: l, 0, x, h => by
    have e : a = x := Option.some.inj h
    subst e
    rfl
  | a :: l, i + 1, x, h => by
    have ih := take_snoc (l := l) (i := i) (x := x) h
    show a :: l.take (i + 1) = a :: l.take i ++ [x]
    rw [ih]
    rfl
theorem nv_get {l : List Nat} {i : Nat} {y : V} (h : (nv l)[i]? = some y) : ∃ n, l[i]? = some n ∧ y = V.int (n : Int) := by
  rw [List.getElem?_map] at h
  cases e : l[i]? with
  | none => rw [e] at h; cases h
  | some n => rw [e] at h; exact ⟨n, rfl, (Option.some.inj h).symm⟩
theorem getD_some {ss : List Kv204.Stretch} {k : Nat} (h : k < ss.length) : ss[k]? = some (ss.getD k NOS) := by
  rw [List.getD_eq_getElem?_getD, List.getElem?_eq_getElem h]
  rfl
def spMost (K : PySem.W.Frag) : Sp := fun vs H Q _ => ∃ x y n a h t ss, ∃ ws : Kv204.Worth, vs = [x, y, .ref a] ∧ WoV K H x ws ∧ SlV K H y ss ∧ SqL K H a (nv (h :: t)) ∧ OkW n ws ∧ (∀ s ∈ ss, OkS n s) ∧ (∀ j ∈ h :: t, j < ss.length) ∧
  ∀ H', Same H H' → Q (.int (best (fun j => ws.of_ (ss.getD j NOS)) (h :: t) : Nat)) H'
theorem sc_worth_most : FnScope ["worth", "stretches", "numbers", "best", "number"] ["worth", "stretches", "numbers"] (defScope (top 39)) := ⟨rfl, rfl, rfl, by decide +kernel, rfl, by decide +kernel, by decide +kernel⟩
theorem fn_worth_most (T : Txt K mg C) : Fn P w K mg base "worth_most" ["worth", "stretches", "numbers"] 5 (spMost K) := by
  have G_is_up_to : Fn P w K mg base "is_up_to" _ 1 (spUp K) := fn_is_up_to T
  have G_stretch_worth : Fn P w K mg base "stretch_worth" _ 4 (spWorth K) := fn_stretch_worth T
  refine T.d_worth_most.fn sc_worth_most (fun vs H Q E h => ?_) (fun f cdv A outer s H vs Q E hr h => ?_)
  · obtain ⟨x, y, n, a, h, t, ss, ws, rfl, _⟩ := h
    rfl
  · obtain ⟨x, y, n, a, h, t, ss, ws, rfl, hx, hy, ha, hw, hs, hj, k⟩ := h
    refine ⟨_, (pss_cons (ps_set (i := 3) sc_worth_most.nd rfl (Or.inl rfl) (pe_ix ix_list (pv 2) pe_int (fun _ _ => rfl))) (pss_cons (ps_for PassesOwn.never rfl (pi_list (pe_slice sl_list (pv 2) (po_some pe_int) po_none)) (pg_name (i := 4) sc_worth_most.nd rfl (Or.inl rfl)) (pss_one (ps_if (pt_not (pt_val (pe_fn G_is_up_to hr (pa_cons (pe_fn G_stretch_worth hr (pa_cons (pv 0) (pa_cons (pe_ix ix_list (pv 1) (pv 4) (fun _ _ => rfl)) pa_nil))) (pa_cons (pe_fn G_stretch_worth hr (pa_cons (pv 0) (pa_cons (pe_ix ix_list (pv 1) (pv 3) (fun _ _ => rfl)) pa_nil))) pa_nil))))) (pss_one (ps_set (i := 3) sc_worth_most.nd rfl (Or.inl rfl) (pv 4))) pss_nil))) (pss_one (ps_ret (pv 3))))), ?_⟩
    refine ⟨_, rfl, _, _, _, _, rfl, rfl, ha, atI_nat (j := 0) rfl, ?_⟩
    refine ⟨_, rfl, _, rfl, a, _, rfl, ha, fun p hp => ?_⟩
    rw [cut_from1]
    have e1 := same_new (o := .lst (nv t)) hp
    refine ⟨p, rfl, ⟨_, SqL.of upd_same⟩, for_list (K := K) (a := p) (xs := nv t) (fun i σ H' => Same H H' ∧ H' p = some (.lst (nv t)) ∧ ∃ (b : Nat) (r : Option V), σ = [some x, some y, some (.ref a), some (.int (b : Int)), r] ∧ b = (t.take i).foldl (bestF (fun j => ws.of_ (ss.getD j NOS))) h ∧ b ∈ h :: t)
      ⟨e1, upd_same, h, none, rfl, rfl, List.mem_cons_self ..⟩ (fun i σ H' _ ⟨_, z, _⟩ => SqL.of z) ?_ ?_⟩
    · rintro i yv σ H' hi ⟨e2, hp2, b, r, rfl, hb, hm⟩
      obtain ⟨c, hc, rfl⟩ := nv_get hi
      have hcm : c ∈ h :: t := List.mem_cons_of_mem _ (List.mem_of_getElem? hc)
      obtain ⟨ay, xs, rfl, hay, hsts⟩ := hy.mono e2
      have okc : OkS n (ss.getD c NOS) := hs _ (List.mem_of_getElem? (getD_some (hj c hcm)))
      have okb : OkS n (ss.getD b NOS) := hs _ (List.mem_of_getElem? (getD_some (hj b hm)))
      obtain ⟨vc, hvc, stc⟩ := hsts.get (getD_some (hj c hcm))
      obtain ⟨vb, hvb, stb⟩ := hsts.get (getD_some (hj b hm))
      refine ⟨_, rfl, _, rfl, _, rfl, _, _, _, _, rfl, rfl, hay, atI_nat hvc, _, _, n, _, ws, rfl, hx.mono e2, stc, hw, okc, fun H3 r3 e3 p3 => ?_⟩
      refine ⟨_, rfl, _, rfl, _, rfl, _, _, _, _, rfl, rfl, e3.seq hay, atI_nat hvb, _, _, n, _, ws, rfl, (hx.mono e2).mono e3, stb.mono e3, hw, okb, fun H4 r4 e4 p4 => ?_⟩
      refine ⟨_, _, _, _, rfl, p3.mono e4, p4, (of_sz hw okc).low.to, (of_sz hw okb).low.to, _, rfl, ?_⟩
      have e5 := (e2.trans e3).trans e4
      have hp5 : H4 p = some (.lst (nv t)) := e4 _ _ (e3 _ _ hp2)
      have eb : bestF (fun j => ws.of_ (ss.getD j NOS)) b c = (t.take (i + 1)).foldl (bestF (fun j => ws.of_ (ss.getD j NOS))) h := by
        rw [take_snoc hc, List.foldl_append, ← hb]
        rfl
      have hbl := bestF_lowest (v := fun j => ws.of_ (ss.getD j NOS)) (b := b) (k := c) (of_pos ws okb) (of_pos ws okc)
      cases hle : le (lowest (ws.of_ (ss.getD c NOS))) (lowest (ws.of_ (ss.getD b NOS))) with
      | true =>
        rw [hle, if_pos rfl] at hbl
        refine iteF ⟨e5, hp5, b, _, rfl, ?_, hm⟩
        rw [← eb, hbl]
      | false =>
        rw [hle, if_neg (by decide)] at hbl
        refine iteT ⟨_, rfl, e5, hp5, c, _, rfl, ?_, hcm⟩
        rw [← eb, hbl]
    · rintro σ H' ⟨e2, hp2, b, r, rfl, hb, hm⟩
      refine ⟨_, rfl, ?_⟩
      have := k H' e2
      rw [best_cons] at this
      rw [List.length_map, List.take_length] at hb
      rw [hb]
      exact this
/-! ### trim_advised, advice -/
theorem filt_snoc {k i j : Nat} (h : ALL[i]? = some j) : (ALL.take (i + 1)).filter (· != k) = (ALL.take i).filter (· != k) ++ (if j = k then [] else [j]) := by
  rw [take_snoc h, List.filter_append]
  congr 1
  by_cases e : j = k
  · rw [if_pos e]; simp [e]
  · rw [if_neg e]; simp [e]
theorem filt_len (k i : Nat) : ((ALL.take i).filter (· != k)).length ≤ 3 := by
  refine Nat.le_trans (List.length_filter_le _ _) ?_
  rw [List.length_take]
  exact Nat.le_trans (Nat.min_le_right _ _) (by decide)
def spTrimAd (K : PySem.W.Frag) : Sp := fun vs H Q _ => ∃ x y n ss, ∃ (k : Nat) (ws : Kv204.Worth), vs = [x, y, .int k] ∧ WoV K H x ws ∧ SlV K H y ss ∧ ss.length = 3 ∧ k ≤ 2 ∧ OkW n ws ∧ (∀ s ∈ ss, OkS n s) ∧ (∀ j, j ≤ 2 → Le (ws.of_ (ss.getD j NOS)) (ws.of_ (ss.getD k NOS))) ∧
  ∀ H' v, Same H H' → PlV K H' v (from_ ws (ss.getD k NOS).1 (plus (ws.mark (ss.getD k NOS).1) (ws.of_ (ss.getD (best (fun j => ws.of_ (ss.getD j NOS)) (ALL.filter (· != k))) NOS)))) → Q v H'
theorem sc_trim_advised : FnScope ["worth", "pieces", "which", "others", "rival", "begin", "wanted", "number"] ["worth", "pieces", "which"] (defScope (top 40)) := ⟨rfl, rfl, rfl, by decide +kernel, rfl, by decide +kernel, by decide +kernel⟩
theorem fn_trim_advised (T : Txt K mg C) : Fn P w K mg base "trim_advised" ["worth", "pieces", "which"] 6 (spTrimAd K) := by
  have G_mark : Fn P w K mg base "mark" _ 3 (spMark K) := fn_mark T
  have G_added : Fn P w K mg base "added" _ 3 (spAdd K) := fn_added T
  have G_stretch_worth : Fn P w K mg base "stretch_worth" _ 4 (spWorth K) := fn_stretch_worth T
  have G_first_place_with : Fn P w K mg base "first_place_with" _ 4 (spFirst K) := fn_first_place_with T
  have G_worth_most : Fn P w K mg base "worth_most" _ 5 (spMost K) := fn_worth_most T
  refine T.d_trim_advised.fn sc_trim_advised (fun vs H Q E h => ?_) (fun f cdv A outer s H vs Q E hr h => ?_)
  · obtain ⟨x, y, n, ss, k, ws, rfl, _⟩ := h
    rfl
  · obtain ⟨x, y, n, ss, k, ws, rfl, hx, hy, hl, hk, hw, hs, hmax, q⟩ := h
    refine ⟨_, (pss_cons (ps_setLc (i := 3) (own := [("number", 7)]) rfl sc_trim_advised.nd rfl rfl (sw_true rfl rfl rfl (by decide +kernel)) (pi_tup (pe_ct T.t_ALL_THREE)) (blkOk_by (by show blkC ["worth", "pieces", "which", "others", "rival", "begin", "wanted", "number"] (defScope (top 40)) { kind := .function, names := [(".0", .local), ("number", .local), ("which", .free)], isGenerator := false, isCoroutine := false } [("number", 7)] = true; decide +kernel)) (fun _ _ _ _ _ => pg_name (i := 7) sc_trim_advised.nd rfl (Or.inl rfl)) (fun _ _ _ _ _ => pts_one (pt_cmpR op_ne (pv 7) (pv 2) (nomark _))) (fun _ _ _ _ _ => (pv 7))) (pss_cons (ps_set (i := 4) sc_trim_advised.nd rfl (Or.inl rfl) (pe_fn G_worth_most hr (pa_cons (pv 0) (pa_cons (pv 1) (pa_cons (pv 3) pa_nil))))) (pss_cons (ps_set (i := 5) sc_trim_advised.nd rfl (Or.inl rfl) (pe_ix ix_tup (pe_ix ix_list (pv 1) (pv 2) (fun _ _ => rfl)) pe_int (fun _ _ => rfl))) (pss_cons (ps_set (i := 6) sc_trim_advised.nd rfl (Or.inl rfl) (pe_fn G_added hr (pa_cons (pe_fn G_mark hr (pa_cons (pv 0) (pa_cons (pv 5) pa_nil))) (pa_cons (pe_fn G_stretch_worth hr (pa_cons (pv 0) (pa_cons (pe_ix ix_list (pv 1) (pv 4) (fun _ _ => rfl)) pa_nil))) pa_nil)))) (pss_one (ps_ret (pe_fn G_first_place_with hr (pa_cons (pv 0) (pa_cons (pv 5) (pa_cons (pv 6) pa_nil)))))))))), ?_⟩
    intro aA hA
    refine ⟨aA, rfl, ⟨_, hA _⟩, fun D hD => lc_tup (K := K) (a := aA) (xs := [.int 0, .int 1, .int 2]) (fun i H' => Same H H' ∧ H' D = some (.lst (nv ((ALL.take i).filter (· != k))))) ⟨same_new hD, upd_same⟩ (fun _ _ _ _ => hA _) ?_ ?_⟩
    · rintro i xv H' hi ⟨e1, hD1⟩
      obtain ⟨j, hj, rfl⟩ := nv_get (l := ALL) hi
      refine ⟨rfl, _, rfl, _, rfl, rfl, _, rfl, ?_⟩
      by_cases e : j = k
      · rw [decide_eq_true (show V.int (j : Int) = V.int (k : Int) by rw [e])]
        refine iteF ⟨e1, ?_⟩
        rw [filt_snoc hj, if_pos e, List.append_nil]
        exact hD1
      · rw [decide_eq_false (fun z => e (by injection z with z; omega))]
        refine iteT ⟨_, rfl, _, hD1, ?_, ?_, ?_⟩
        · rw [List.length_map]
          exact Nat.lt_of_le_of_lt (filt_len k i) (by decide)
        · exact same_upd hD e1
        · rw [filt_snoc hj, if_neg e]
          show upd _ _ _ _ = _
          rw [upd_same, nv, nv, List.map_append]
          rfl
    · rintro H1 ⟨e1, hD1⟩
      have hD1 : H1 D = some (.lst (nv (ALL.filter (· != k)))) := hD1
      obtain ⟨h, t, eht⟩ : ∃ h t, ALL.filter (· != k) = h :: t := by
        rcases le2 hk with rfl | rfl | rfl
        · exact ⟨1, [2], rfl⟩
        · exact ⟨0, [2], rfl⟩
        · exact ⟨0, [1], rfl⟩
      have hin : ∀ j ∈ h :: t, j ≤ 2 := fun j hj => by
        rw [← eht] at hj
        exact all2.mp (List.mem_filter.mp hj).1
      rw [eht] at q hD1
      have hrm := best_mem (v := fun j => ws.of_ (ss.getD j NOS)) (h := h) (t := t)
      have hkl : k < ss.length := by omega
      have hrl : best (fun j => ws.of_ (ss.getD j NOS)) (h :: t) < ss.length := by
        have := hin _ hrm
        omega
      have okk : OkS n (ss.getD k NOS) := hs _ (List.mem_of_getElem? (getD_some hkl))
      have okr : OkS n (ss.getD (best (fun j => ws.of_ (ss.getD j NOS)) (h :: t)) NOS) := hs _ (List.mem_of_getElem? (getD_some hrl))
      have hle := hmax _ (hin _ hrm)
      refine ⟨_, rfl, _, rfl, _, rfl, _, _, n, D, h, t, ss, ws, rfl, hx.mono e1, hy.mono e1, SqL.of hD1, hw, hs, fun j hj => by have := hin j hj; omega, fun H2 e2 => ?_⟩
      have e12 := e1.trans e2
      obtain ⟨ay, xs, rfl, hay, hsts⟩ := hy.mono e12
      obtain ⟨vk, hvk, ak, yk1, yk2, evk, hak, hk1, hk2⟩ := hsts.get (getD_some hkl)
      obtain ⟨vr, hvr, str⟩ := hsts.get (getD_some hrl)
      refine ⟨_, rfl, _, rfl, _, _, _, _, rfl, rfl, hay, atI_nat hvk, _, _, _, _, evk, rfl, hak, rfl, ?_⟩
      refine ⟨_, rfl, _, rfl, _, _, n, (ss.getD k NOS).1, ws, rfl, hx.mono e12, hk1, hw, okk.a, fun H3 r3 e3 p3 => ?_⟩
      have e13 := e12.trans e3
      refine ⟨_, rfl, _, rfl, _, rfl, _, _, _, _, rfl, rfl, e3.seq hay, atI_nat hvr, _, _, n, _, ws, rfl, hx.mono e13, str.mono e3, hw, okr, fun H4 r4 e4 p4 => ?_⟩
      refine ⟨_, _, _, _, rfl, p3.mono e4, p4, (mark_sz hw okk.a).low.to, (of_sz hw okr).low.to, fun H5 r5 e5 p5 => ?_⟩
      have e15 := (e13.trans e4).trans e5
      refine ⟨_, rfl, _, rfl, _, rfl, _, _, _, n, _, wantL ws (ss.getD k NOS) (ss.getD (best (fun j => ws.of_ (ss.getD j NOS)) (h :: t)) NOS), ws, rfl, hx.mono e15, hk1.mono ((e3.trans e4).trans e5), p5, hw, okk.a, (want_sz hw okk okr).to,
        lowest_idem (plus_pos (lowest_pos (mkp ws okk)) (lowest_pos (of_pos ws okr))), want_ge okk okr, want_le hw.len okk okr hle, fun H6 r6 e6 p6 => ?_⟩
      rw [want_from hw.len okk okr hle] at p6
      exact q H6 r6 (e15.trans e6) p6
/-- a new list is handed back -/
def RetL (H : Hp) (Q : VK) (xs : List V) : Prop := ∀ H' l, Same H H' → H l = none → H' l = some (.lst xs) → Q (.ref l) H'
def spAdvice (K : PySem.W.Frag) : Sp := fun vs H Q _ => ∃ y z p q, ∃ k : Nat, vs = [.int k, y, z] ∧ PlV K H y p ∧ PlV K H z q ∧ RetL H Q [.int 0, .int k, .int (p.1 : Nat), .int (p.2 : Nat), .int (q.1 : Nat), .int (q.2 : Nat)]
theorem sc_advice : FnScope ["which", "first", "second"] ["which", "first", "second"] (defScope (top 41)) := ⟨rfl, rfl, rfl, by decide +kernel, rfl, by decide +kernel, by decide +kernel⟩
theorem fn_advice (T : Txt K mg C) : Fn P w K mg base "advice" ["which", "first", "second"] 1 (spAdvice K) := by
  refine T.d_advice.fn sc_advice (fun vs H Q E h => ?_) (fun f cdv A outer s H vs Q E hr h => ?_)
  · obtain ⟨y, z, p, q, k, rfl, _⟩ := h
    rfl
  · obtain ⟨y, z, p, q, k, rfl, ⟨a, rfl, ha⟩, ⟨b, rfl, hb⟩, kk⟩ := h
    refine ⟨_, (pss_one (ps_ret (pe_lst (pa_cons (pe_ci T.c_DONE) (pa_cons (pv 0) (pa_cons (pe_ix ix_tup (pv 1) pe_int (fun _ _ => rfl)) (pa_cons (pe_ix ix_tup (pv 1) pe_int (fun _ _ => rfl)) (pa_cons (pe_ix ix_tup (pv 2) pe_int (fun _ _ => rfl)) (pa_cons (pe_ix ix_tup (pv 2) pe_int (fun _ _ => rfl)) pa_nil))))))))), ?_⟩
    exact ⟨_, rfl, _, rfl, _, _, _, _, rfl, rfl, ha, rfl, _, rfl, _, _, _, _, rfl, rfl, ha, rfl, _, rfl, _, _, _, _, rfl, rfl, hb, rfl, _, rfl, _, _, _, _, rfl, rfl, hb, rfl, (by show 6 ≤ sizeLine; decide), fun l hl => kk _ l (same_new hl) hl upd_same⟩
end
end Ck

set_option Elab.async false
set_option linter.all false
set_option maxRecDepth 100000
set_option maxHeartbeats 2000000
namespace Ck
open PySem PySem.Spec PyProof.Rows L2
open Kv204 (lowest plus minus le best)
/-! ### the object -/
def flds (vc : V) (n st : Nat) (l1 l2 : Addr) (tr : Nat) (vt : V) (l3 l4 : Addr) : List (Str × V) :=
  [("cake", vc), ("cells", .int n), ("stage", .int st), ("pieces", .ref l1), ("piece_of", .ref l2), ("trimmed", .int tr), ("trimmings", vt), ("parts", .ref l3), ("part_of", .ref l4)]
section
variable (vc : V) (n st : Nat) (l1 l2 : Addr) (tr : Nat) (vt : V) (l3 l4 : Addr)
theorem lk_cake : (flds vc n st l1 l2 tr vt l3 l4).lookup ("cake" : Str) = some vc := rfl
theorem lk_cells : (flds vc n st l1 l2 tr vt l3 l4).lookup ("cells" : Str) = some (.int n) := rfl
theorem lk_stage : (flds vc n st l1 l2 tr vt l3 l4).lookup ("stage" : Str) = some (.int st) := rfl
theorem lk_pieces : (flds vc n st l1 l2 tr vt l3 l4).lookup ("pieces" : Str) = some (.ref l1) := rfl
theorem lk_piece_of : (flds vc n st l1 l2 tr vt l3 l4).lookup ("piece_of" : Str) = some (.ref l2) := rfl
theorem lk_trimmed : (flds vc n st l1 l2 tr vt l3 l4).lookup ("trimmed" : Str) = some (.int tr) := rfl
theorem lk_trimmings : (flds vc n st l1 l2 tr vt l3 l4).lookup ("trimmings" : Str) = some vt := rfl
theorem lk_parts : (flds vc n st l1 l2 tr vt l3 l4).lookup ("parts" : Str) = some (.ref l3) := rfl
theorem lk_part_of : (flds vc n st l1 l2 tr vt l3 l4).lookup ("part_of" : Str) = some (.ref l4) := rfl
theorem lk_no {m : Str} (h : ((["cake", "cells", "stage", "pieces", "piece_of", "trimmed", "trimmings", "parts", "part_of"] : List Str).all fun f => !(m == f)) = true) : (flds vc n st l1 l2 tr vt l3 l4).lookup m = none := by
  simp only [List.all_cons, Bool.and_eq_true, Bool.not_eq_true'] at h
  obtain ⟨h1, h2, h3, h4, h5, h6, h7, h8, h9, _⟩ := h
  simp only [flds, List.lookup_cons, h1, h2, h3, h4, h5, h6, h7, h8, h9, List.lookup_nil]
theorem put_stage (x : Nat) : putF "stage" (.int x) (flds vc n st l1 l2 tr vt l3 l4) = flds vc n x l1 l2 tr vt l3 l4 := rfl
theorem put_pieces (x : Addr) : putF "pieces" (.ref x) (flds vc n st l1 l2 tr vt l3 l4) = flds vc n st x l2 tr vt l3 l4 := rfl
theorem put_trimmed (x : Nat) : putF "trimmed" (.int x) (flds vc n st l1 l2 tr vt l3 l4) = flds vc n st l1 l2 x vt l3 l4 := rfl
theorem put_trimmings (x : V) : putF "trimmings" x (flds vc n st l1 l2 tr vt l3 l4) = flds vc n st l1 l2 tr x l3 l4 := rfl
theorem put_parts (x : Addr) : putF "parts" (.ref x) (flds vc n st l1 l2 tr vt l3 l4) = flds vc n st l1 l2 tr vt x l4 := rfl
end
theorem put_new (vc : V) (n st : Nat) (l1 l2 : Addr) (tr : Nat) (vt : V) (l3 l4 : Addr) (fs : List (Str × V)) (h : fs = [] ∨ ∃ vc n st l1 l2 tr vt l3 l4, fs = flds vc n st l1 l2 tr vt l3 l4) :
    putF "part_of" (.ref l4) (putF "parts" (.ref l3) (putF "trimmings" vt (putF "trimmed" (.int tr) (putF "piece_of" (.ref l2) (putF "pieces" (.ref l1) (putF "stage" (.int st) (putF "cells" (.int n) (putF "cake" vc fs)))))))) = flds vc n st l1 l2 tr vt l3 l4 := by
  rcases h with rfl | ⟨_, _, _, _, _, _, _, _, _, rfl⟩ <;> rfl
theorem lenp {f : Str} {v : V} {fs : List (Str × V)} {n : Nat} (h : fs.length < n) : (putF f v fs).length < n + 1 := Nat.lt_of_le_of_lt (length_putF f v fs) (by omega)
theorem two_len {a b : V} : ([a, b] : List V).length ≤ sizeLine := by show 2 ≤ sizeLine; decide
theorem three_len {a b c : V} : ([a, b, c] : List V).length ≤ sizeLine := by show 3 ≤ sizeLine; decide
theorem hpA {H : Hp} {a p : Addr} {o u : HO} (n : H a = none) (hp : H p = some u) : upd H a o p = some u := (upd_ne (ne_of_none hp n)).trans hp
/-- a Sharing whose fields are m stands at p; its lists -/
structure Sh (K : PySem.W.Frag) (C : Addr) (H : Hp) (p : Addr) (m : M) (l1 l2 l3 l4 : Addr) : Prop where
  ex : ∃ dx vc vt, H p = some (.ins C dx (flds vc m.cells m.stage l1 l2 m.trimmed vt l3 l4)) ∧ StV K H vc m.cake ∧ StV K H vt m.trimmings
  p1 : ∃ xs, H l1 = some (.lst xs) ∧ Sts K H xs m.pieces
  p2 : H l2 = some (.lst (nv m.po))
  p3 : ∃ xs, H l3 = some (.lst xs) ∧ Sts K H xs m.parts
  p4 : H l4 = some (.lst (nv m.pt))
  d12 : l1 ≠ l2
  d13 : l1 ≠ l3
  d14 : l1 ≠ l4
  d23 : l2 ≠ l3
  d24 : l2 ≠ l4
  d34 : l3 ≠ l4
theorem Sh.mono {K : PySem.W.Frag} {C p l1 l2 l3 l4 : Addr} {H H' : Hp} {m : M} (h : Sh K C H p m l1 l2 l3 l4) (e : Same H H') : Sh K C H' p m l1 l2 l3 l4 := by
  obtain ⟨dx, vc, vt, a, b, c⟩ := h.ex
  obtain ⟨x1, a1, b1⟩ := h.p1
  obtain ⟨x3, a3, b3⟩ := h.p3
  exact ⟨⟨dx, vc, vt, e _ _ a, b.mono e, c.mono e⟩, ⟨x1, e _ _ a1, b1.mono e⟩, e _ _ h.p2, ⟨x3, e _ _ a3, b3.mono e⟩, e _ _ h.p4, h.d12, h.d13, h.d14, h.d23, h.d24, h.d34⟩
/-- all but what stands at p is as it was -/
def Kp (p : Addr) (H H' : Hp) : Prop := ∀ b o, H b = some o → b ≠ p → H' b = some o
theorem Kp.trans {p : Addr} {H H1 H2 : Hp} (a : Kp p H H1) (b : Kp p H1 H2) : Kp p H H2 := fun c o h n => b c o (a c o h n) n
theorem Kp.same {p : Addr} {H H1 : Hp} (a : Same H H1) : Kp p H H1 := fun c o h _ => a c o h
theorem Kp.put {p : Addr} {H : Hp} {o : HO} : Kp p H (upd H p o) := fun c u h n => by rw [upd_ne n]; exact h
theorem Kp.new {p a : Addr} {H : Hp} {o : HO} (h : H a = none) : Kp p H (upd H a o) := .same (same_new h)
theorem Kp.refl {p : Addr} {H : Hp} : Kp p H H := fun _ _ h _ => h
theorem newl {H : Hp} {a : Addr} (_n : H a = none) (o : HO) : upd H a o a = some o := upd_same
theorem Kp.free {p l : Addr} {H H' : Hp} {o : HO} (e : Kp p H H') (hp : H' p = some o) (h : H' l = none) : H l = none := by
  cases q : H l with
  | none => rfl
  | some u =>
    have := e l u q (fun z => by rw [z, hp] at h; cases h)
    rw [h] at this
    cases this
section
variable {K : PySem.W.Frag} {H H' : Hp} {p C dx : Addr} {fs : List (Str × V)}
theorem Kp.tup {a : Addr} {xs : List V} (e : Kp p H H') (hp : H p = some (.ins C dx fs)) (h : SqT K H a xs) : SqT K H' a xs := by
  rcases h with (h | ⟨o, h⟩) | h
  · exact .inl (.inl (e _ _ h (ne_of h hp (by intro z; cases z))))
  · exact .inl (.inr ⟨o, e _ _ h (ne_of h hp (by intro z; cases z))⟩)
  · exact .inr h
theorem Kp.pl {x : V} {q : Kv204.At} (e : Kp p H H') (hp : H p = some (.ins C dx fs)) (h : PlV K H x q) : PlV K H' x q := by
  obtain ⟨a, rfl, h⟩ := h
  exact ⟨a, rfl, e.tup hp h⟩
theorem Kp.st {x : V} {q : Kv204.Stretch} (e : Kp p H H') (hp : H p = some (.ins C dx fs)) (h : StV K H x q) : StV K H' x q := by
  obtain ⟨a, y, z, rfl, h, h1, h2⟩ := h
  exact ⟨a, y, z, rfl, e.tup hp h, e.pl hp h1, e.pl hp h2⟩
theorem Kp.sts (e : Kp p H H') (hp : H p = some (.ins C dx fs)) : ∀ {xs : List V} {ss : List Kv204.Stretch}, Sts K H xs ss → Sts K H' xs ss
  | _, _, .nil => .nil
  | _, _, .cons a b => .cons (e.st hp a) (Kp.sts e hp b)
theorem Kp.lst {a : Addr} {xs : List V} (e : Kp p H H') (hp : H p = some (.ins C dx fs)) (h : H a = some (.lst xs)) : H' a = some (.lst xs) := e _ _ h (ne_of h hp (by intro z; cases z))
end
section
variable {P : Program} {w : World} {K : PySem.W.Frag} {mg : Str → Option Value} {base : Heap} {C : Addr}
/-! ### begin, __init__, start -/
def spBegin (K : PySem.W.Frag) (C : Addr) : Sp := fun vs H Q _ => ∃ (p dx : Addr) (fs : List (Str × V)) (n : Nat), vs = [.ref p, .int n] ∧ H p = some (.ins C dx fs) ∧ (fs = [] ∨ ∃ vc n st l1 l2 tr vt l3 l4, fs = flds vc n st l1 l2 tr vt l3 l4) ∧
  ∀ H' l1 l2 l3 l4, Sh K C H' p (begin_ n) l1 l2 l3 l4 → Kp p H H' → H l1 = none → H l2 = none → H l3 = none → H l4 = none → Q .non H'
theorem sm_begin : FnScope ["self", "cells"] ["self", "cells"] (defScope (md 1)) := ⟨rfl, rfl, rfl, by decide +kernel, rfl, by decide +kernel, by decide +kernel⟩
theorem mt_begin (T : Txt K mg C) : Mt P w K mg base C "begin" ["self", "cells"] 1 (spBegin K C) := by
  refine T.m_begin.mt sm_begin (fun vs H Q E h => ?_) (fun f cdv A outer s H vs Q E hr h => ?_)
  · obtain ⟨p, dx, fs, n, rfl, _⟩ := h
    rfl
  · obtain ⟨p, dx, fs, n, rfl, hp, hfs, k⟩ := h
    refine ⟨_, (pss_cons (ps_fld (pv 0) (pe_tup (pa_cons (pe_ct T.t_NO_PLACE) (pa_cons (pe_tup (pa_cons (pv 1) (pa_cons pe_int pa_nil))) pa_nil))) rfl) (pss_cons (ps_fld (pv 0) (pv 1) rfl) (pss_cons (ps_fld (pv 0) (pe_ci T.c_CUT) rfl) (pss_cons (ps_fld (pv 0) (pe_lst pa_nil) rfl) (pss_cons (ps_fld (pv 0) (pe_lst (pa_cons pe_int (pa_cons pe_int (pa_cons pe_int pa_nil)))) rfl) (pss_cons (ps_fld (pv 0) pe_int rfl) (pss_cons (ps_fld (pv 0) (pe_tup (pa_cons (pe_ct T.t_NO_PLACE) (pa_cons (pe_ct T.t_NO_PLACE) pa_nil))) rfl) (pss_cons (ps_fld (pv 0) (pe_lst pa_nil) rfl) (pss_one (ps_fld (pv 0) (pe_lst (pa_cons pe_int (pa_cons pe_int (pa_cons pe_int pa_nil)))) rfl)))))))))), ?_⟩
    have hl0 : fs.length < 10 := by
      rcases hfs with rfl | ⟨_, _, _, _, _, _, _, _, _, rfl⟩
      · show 0 < 10; decide
      · show 9 < 10; decide
    intro aN hN
    refine ⟨_, rfl, two_len, fun t1 n1 => ⟨two_len, fun t2 n2 => ⟨_, rfl, p, C, dx, fs, rfl, hpA n2 (hpA n1 hp), T.cl, T.n_cake, Nat.lt_of_lt_of_le hl0 (by decide), ?_⟩⟩⟩
    refine ⟨_, rfl, _, rfl, p, C, dx, _, rfl, upd_same, T.cl, T.n_cells, Nat.lt_of_lt_of_le (lenp hl0) (by decide), ?_⟩
    refine ⟨_, rfl, p, C, dx, _, rfl, upd_same, T.cl, T.n_stage, Nat.lt_of_lt_of_le (lenp (lenp hl0)) (by decide), ?_⟩
    refine ⟨Nat.zero_le _, fun l1 m1 => ⟨_, rfl, p, C, dx, _, rfl, hpA m1 upd_same, T.cl, T.n_pieces, Nat.lt_of_lt_of_le (lenp (lenp (lenp hl0))) (by decide), ?_⟩⟩
    refine ⟨three_len, fun l2 m2 => ⟨_, rfl, p, C, dx, _, rfl, hpA m2 upd_same, T.cl, T.n_piece_of, Nat.lt_of_lt_of_le (lenp (lenp (lenp (lenp hl0)))) (by decide), ?_⟩⟩
    refine ⟨_, rfl, p, C, dx, _, rfl, upd_same, T.cl, T.n_trimmed, Nat.lt_of_lt_of_le (lenp (lenp (lenp (lenp (lenp hl0))))) (by decide), ?_⟩
    intro b1 hb1 b2 hb2
    refine ⟨two_len, fun t3 n3 => ⟨_, rfl, p, C, dx, _, rfl, hpA n3 upd_same, T.cl, T.n_trimmings, Nat.lt_of_lt_of_le (lenp (lenp (lenp (lenp (lenp (lenp hl0)))))) (by decide), ?_⟩⟩
    refine ⟨Nat.zero_le _, fun l3 m3 => ⟨_, rfl, p, C, dx, _, rfl, hpA m3 upd_same, T.cl, T.n_parts, Nat.lt_of_lt_of_le (lenp (lenp (lenp (lenp (lenp (lenp (lenp hl0))))))) (by decide), ?_⟩⟩
    refine ⟨three_len, fun l4 m4 => ⟨_, rfl, p, C, dx, _, rfl, hpA m4 upd_same, T.cl, T.n_part_of, Nat.lt_of_lt_of_le (lenp (lenp (lenp (lenp (lenp (lenp (lenp (lenp hl0)))))))) (by decide), ?_⟩⟩
    -- the heaps one after another
    have pl : ∀ {a : Addr} {H : Hp}, (∀ H, SqT K H a [.int 0, .int 1]) → PlV K H (.ref a) NO := fun {a H} h => ⟨a, rfl, h H⟩
    have hp1 := hpA (o := .tup [.int n, .int 1]) n1 hp
    have q1 : PlV K (upd H t1 (.tup [.int n, .int 1])) (.ref t1) (n, 1) := PlV.new (n, 1)
    have hp2 := hpA (o := .tup [.ref aN, .ref t1]) n2 hp1
    have q2 := StV.new (K := K) (y := .ref aN) (z := .ref t1) (s := (NO, (n, 1))) n2 (pl hN) q1
    have hp6 := hpA (o := .lst []) m1 upd_same
    have g1 := newl m1 (.lst [])
    have hp8 := hpA (o := .lst [.int 0, .int 0, .int 0]) m2 upd_same
    have g2 := newl m2 (.lst [.int 0, .int 0, .int 0])
    have hp11 := hpA (o := .tup [.ref b1, .ref b2]) n3 upd_same
    have q3 := StV.new (K := K) (y := .ref b1) (z := .ref b2) (s := NOS) n3 (pl hb1) (pl hb2)
    have hp13 := hpA (o := .lst []) m3 upd_same
    have g3 := newl m3 (.lst [])
    have hp15 := hpA (o := .lst [.int 0, .int 0, .int 0]) m4 upd_same
    have g4 := newl m4 (.lst [.int 0, .int 0, .int 0])
    refine k _ l1 l2 l3 l4 ⟨⟨dx, .ref t2, .ref t3, ?_, ?_, ?_⟩, ⟨[], ?_, .nil⟩, ?_, ⟨[], ?_, .nil⟩, ?_, ?_, ?_, ?_, ?_, ?_, ?_⟩ ?_ ?_ ?_ ?_ ?_
    · refine Eq.trans upd_same ?_
      rw [show ∀ a b : List (Str × V), a = b → some (HO.ins C dx a) = some (HO.ins C dx b) from fun _ _ h => by rw [h]]
      exact put_new _ _ _ _ _ _ _ _ _ _ hfs
    · exact Kp.st (by repeat (first | with_reducible exact Kp.refl | with_reducible refine Kp.trans ?_ Kp.put | with_reducible refine Kp.trans ?_ (Kp.new (by assumption)))) hp2 q2
    · exact Kp.st (by repeat (first | with_reducible exact Kp.refl | with_reducible refine Kp.trans ?_ Kp.put | with_reducible refine Kp.trans ?_ (Kp.new (by assumption)))) hp11 q3
    · exact Kp.lst (by repeat (first | with_reducible exact Kp.refl | with_reducible refine Kp.trans ?_ Kp.put | with_reducible refine Kp.trans ?_ (Kp.new (by assumption)))) hp6 g1
    · exact Kp.lst (by repeat (first | with_reducible exact Kp.refl | with_reducible refine Kp.trans ?_ Kp.put | with_reducible refine Kp.trans ?_ (Kp.new (by assumption)))) hp8 g2
    · exact Kp.lst (by repeat (first | with_reducible exact Kp.refl | with_reducible refine Kp.trans ?_ Kp.put | with_reducible refine Kp.trans ?_ (Kp.new (by assumption)))) hp13 g3
    · exact Kp.lst (by repeat (first | with_reducible exact Kp.refl | with_reducible refine Kp.trans ?_ Kp.put | with_reducible refine Kp.trans ?_ (Kp.new (by assumption)))) hp15 g4
    · exact ne_of_none (Kp.lst (by repeat (first | with_reducible exact Kp.refl | with_reducible refine Kp.trans ?_ Kp.put | with_reducible refine Kp.trans ?_ (Kp.new (by assumption)))) hp6 g1) m2
    · exact ne_of_none (Kp.lst (by repeat (first | with_reducible exact Kp.refl | with_reducible refine Kp.trans ?_ Kp.put | with_reducible refine Kp.trans ?_ (Kp.new (by assumption)))) hp6 g1) m3
    · exact ne_of_none (Kp.lst (by repeat (first | with_reducible exact Kp.refl | with_reducible refine Kp.trans ?_ Kp.put | with_reducible refine Kp.trans ?_ (Kp.new (by assumption)))) hp6 g1) m4
    · exact ne_of_none (Kp.lst (by repeat (first | with_reducible exact Kp.refl | with_reducible refine Kp.trans ?_ Kp.put | with_reducible refine Kp.trans ?_ (Kp.new (by assumption)))) hp8 g2) m3
    · exact ne_of_none (Kp.lst (by repeat (first | with_reducible exact Kp.refl | with_reducible refine Kp.trans ?_ Kp.put | with_reducible refine Kp.trans ?_ (Kp.new (by assumption)))) hp8 g2) m4
    · exact ne_of_none (Kp.lst (by repeat (first | with_reducible exact Kp.refl | with_reducible refine Kp.trans ?_ Kp.put | with_reducible refine Kp.trans ?_ (Kp.new (by assumption)))) hp13 g3) m4
    · exact by repeat (first | with_reducible exact Kp.refl | with_reducible refine Kp.trans ?_ Kp.put | with_reducible refine Kp.trans ?_ (Kp.new (by assumption)))
    · exact Kp.free (by repeat (first | with_reducible exact Kp.refl | with_reducible refine Kp.trans ?_ Kp.put | with_reducible refine Kp.trans ?_ (Kp.new (by assumption)))) upd_same m1
    · exact Kp.free (by repeat (first | with_reducible exact Kp.refl | with_reducible refine Kp.trans ?_ Kp.put | with_reducible refine Kp.trans ?_ (Kp.new (by assumption)))) upd_same m2
    · exact Kp.free (by repeat (first | with_reducible exact Kp.refl | with_reducible refine Kp.trans ?_ Kp.put | with_reducible refine Kp.trans ?_ (Kp.new (by assumption)))) upd_same m3
    · exact Kp.free (by repeat (first | with_reducible exact Kp.refl | with_reducible refine Kp.trans ?_ Kp.put | with_reducible refine Kp.trans ?_ (Kp.new (by assumption)))) upd_same m4
def spInit (K : PySem.W.Frag) (C : Addr) : Sp := fun vs H Q _ => ∃ (p dx : Addr), vs = [.ref p] ∧ H p = some (.ins C dx []) ∧ ∀ H' l1 l2 l3 l4, Sh K C H' p (begin_ 64) l1 l2 l3 l4 → Kp p H H' → H l1 = none → H l2 = none → H l3 = none → H l4 = none → Q .non H'
theorem sm___init__ : FnScope ["self"] ["self"] (defScope (md 0)) := ⟨rfl, rfl, rfl, by decide +kernel, rfl, by decide +kernel, by decide +kernel⟩
theorem ini_ok (T : Txt K mg C) : Ini P w K mg base C 2 (spInit K C) := by
  have G_m_begin : Mt P w K mg base C "begin" _ 1 (spBegin K C) := mt_begin T
  refine T.d_init.ini sm___init__ (fun vs H Q E h => ?_) (fun f cdv A outer s H vs Q E hr h => ?_)
  · obtain ⟨p, dx, rfl, _⟩ := h
    rfl
  · obtain ⟨p, dx, rfl, hp, k⟩ := h
    refine ⟨_, (pss_one (ps_expr (pe_mt G_m_begin T.cl hr (pv 0) (pa_cons (pe_ci T.c_MOST_CELLS) pa_nil)))), ?_⟩
    exact ⟨_, rfl, p, dx, [], rfl, hp, rfl, p, dx, [], 64, rfl, hp, .inl rfl, fun H' l1 l2 l3 l4 a b c d e f => k H' l1 l2 l3 l4 a b c d e f⟩
/-! ### what a call of a method leaves -/
structure Po (K : PySem.W.Frag) (C : Addr) (H : Hp) (p : Addr) (ow : List Addr) (m' : M) (xs : List V) (H' : Hp) (l : Addr) : Prop where
  sh : ∃ l1 l2 l3 l4, Sh K C H' p m' l1 l2 l3 l4 ∧ (∀ x ∈ [l1, l2, l3, l4], x ∈ ow ∨ H x = none) ∧ l ∉ [l1, l2, l3, l4]
  kp : ∀ b o, H b = some o → b ≠ p → b ∉ ow → H' b = some o
  li : H' l = some (.lst xs)
  new : H l = none
theorem Sh.out {H : Hp} {p l1 l2 l3 l4 l : Addr} {m : M} (h : Sh K C H p m l1 l2 l3 l4) (n : H l = none) : l ∉ [l1, l2, l3, l4] := by
  obtain ⟨x1, a1, _⟩ := h.p1
  obtain ⟨x3, a3, _⟩ := h.p3
  have h2 := h.p2
  have h4 := h.p4
  intro z
  simp only [List.mem_cons, List.not_mem_nil, or_false] at z
  rcases z with rfl | rfl | rfl | rfl
  · rw [n] at a1; cases a1
  · rw [n] at h2; cases h2
  · rw [n] at a3; cases a3
  · rw [n] at h4; cases h4
theorem Po.of_ret {H H' : Hp} {p l1 l2 l3 l4 l : Addr} {m : M} {xs : List V} (h : Sh K C H p m l1 l2 l3 l4) (e : Same H H') (n : H l = none) (hl : H' l = some (.lst xs)) : Po K C H p [l1, l2, l3, l4] m xs H' l :=
  ⟨⟨l1, l2, l3, l4, h.mono e, fun x hx => .inl hx, h.out n⟩, fun b o z _ _ => e b o z, hl, n⟩
def spStart (K : PySem.W.Frag) (C : Addr) : Sp := fun vs H Q _ => ∃ (p l1 l2 l3 l4 : Addr) (m : M) (n : Nat), vs = [.ref p, .int n] ∧ Sh K C H p m l1 l2 l3 l4 ∧ ∀ H' l, Po K C H p [l1, l2, l3, l4] (m.startR n).1 ((m.startR n).2.map V.int) H' l → Q (.ref l) H'
theorem one_len {a : V} : ([a] : List V).length ≤ sizeLine := by show 1 ≤ sizeLine; decide
theorem sm_start : FnScope ["self", "cells"] ["self", "cells"] (defScope (md 2)) := ⟨rfl, rfl, rfl, by decide +kernel, rfl, by decide +kernel, by decide +kernel⟩
theorem mt_start (T : Txt K mg C) : Mt P w K mg base C "start" ["self", "cells"] 2 (spStart K C) := by
  have G_m_begin : Mt P w K mg base C "begin" _ 1 (spBegin K C) := mt_begin T
  refine T.m_start.mt sm_start (fun vs H Q E h => ?_) (fun f cdv A outer s H vs Q E hr h => ?_)
  · obtain ⟨p, l1, l2, l3, l4, m, n, rfl, _⟩ := h
    rfl
  · obtain ⟨p, l1, l2, l3, l4, m, n, rfl, sh, k⟩ := h
    refine ⟨_, (pss_cons (ps_if (pt_not (pt_chain op_le op_le pe_int (pv 1) (pe_ci T.c_MOST_CELLS))) (pss_one (ps_ret (pe_lst (pa_cons (pe_ci T.c_NOT_ALLOWED) pa_nil)))) pss_nil) (pss_cons (ps_expr (pe_mt G_m_begin T.cl hr (pv 0) (pa_cons (pv 1) pa_nil))) (pss_one (ps_ret (pe_lst (pa_cons (pe_ci T.c_DONE) pa_nil)))))), ?_⟩
    obtain ⟨dx, vc, vt, hp, _, _⟩ := sh.ex
    unfold M.startR at k
    have no : ¬ (1 ≤ n ∧ n ≤ 64) → RetL H Q [.int (-22)] := fun hn => by
      rw [if_neg hn] at k
      exact fun H' l e n' hl => k H' l (.of_ret sh e n' hl)
    refine ⟨_, rfl, _, _, rfl, rfl, _, rfl, ?_⟩
    by_cases h1 : 1 ≤ n
    · rw [decide_eq_true (show (1 : Int) ≤ (n : Int) by omega)]
      refine iteT ⟨_, _, rfl, rfl, _, rfl, ?_⟩
      by_cases h2 : n ≤ 64
      · rw [decide_eq_true (show (n : Int) ≤ (64 : Int) by omega)]
        rw [if_pos ⟨h1, h2⟩] at k
        refine iteF ⟨_, rfl, p, dx, _, rfl, hp, lk_no _ _ _ _ _ _ _ _ _ (by decide +kernel), _, rfl, p, dx, _, n, rfl, hp, .inr ⟨_, _, _, _, _, _, _, _, _, rfl⟩, fun H1 k1 k2 k3 k4 sh1 kp1 f1 f2 f3 f4 => ?_⟩
        refine ⟨one_len, fun l hl => k _ l ?_⟩
        have nl : H l = none := by
          obtain ⟨dx', vc', vt', hp', _, _⟩ := sh1.ex
          exact kp1.free hp' hl
        refine ⟨⟨k1, k2, k3, k4, sh1.mono (same_new hl), fun x hx => .inr ?_, sh1.out hl⟩, fun b o z hb _ => same_new hl b o (kp1 b o z hb), upd_same, nl⟩
        simp only [List.mem_cons, List.not_mem_nil, or_false] at hx
        rcases hx with rfl | rfl | rfl | rfl <;> assumption
      · rw [decide_eq_false (show ¬ (n : Int) ≤ (64 : Int) by omega)]
        exact iteT ⟨one_len, fun l hl => no (fun z => h2 z.2) _ l (same_new hl) hl upd_same⟩
    · rw [decide_eq_false (show ¬ (1 : Int) ≤ (n : Int) by omega)]
      exact iteF ⟨_, rfl, iteT ⟨one_len, fun l hl => no (fun z => h1 z.1) _ l (same_new hl) hl upd_same⟩⟩
/-! ### holder, parter, person, turn -/
theorem of3 {l : List Nat} (h : l.length = 3) {i : Nat} (hi : i < 3) : (nv l)[i]? = some (V.int (l.getD i 0 : Nat)) := by
  refine WoV.get ?_
  rw [List.getD_eq_getElem?_getD, List.getElem?_eq_getElem (by omega)]
  rfl
theorem holder_le (m : M) : m.holder = 1 ∨ m.holder = 2 := by
  unfold M.holder
  split
  · exact .inl rfl
  · exact .inr rfl
def spHold (K : PySem.W.Frag) (C : Addr) (g : M → Nat) : Sp := fun vs H Q _ => ∃ (p l1 l2 l3 l4 : Addr) (m : M), vs = [.ref p] ∧ Sh K C H p m l1 l2 l3 l4 ∧ m.po.length = 3 ∧ Q (.int (g m : Nat)) H
theorem sm_holder : FnScope ["self"] ["self"] (defScope (md 3)) := ⟨rfl, rfl, rfl, by decide +kernel, rfl, by decide +kernel, by decide +kernel⟩
theorem mt_holder (T : Txt K mg C) : Mt P w K mg base C "holder" ["self"] 1 (spHold K C M.holder) := by
  refine T.m_holder.mt sm_holder (fun vs H Q E h => ?_) (fun f cdv A outer s H vs Q E hr h => ?_)
  · obtain ⟨p, l1, l2, l3, l4, m, rfl, _⟩ := h
    rfl
  · obtain ⟨p, l1, l2, l3, l4, m, rfl, sh, h3, k⟩ := h
    refine ⟨_, (pss_one (ps_ret (pe_ifExp (pt_cmpR op_eq (pe_ix ix_list (pe_fld (pv 0) rfl) pe_int (fun _ _ => rfl)) (pe_fld (pv 0) rfl) (nomark _)) pe_int pe_int))), ?_⟩
    obtain ⟨dx, vc, vt, hp, _, _⟩ := sh.ex
    unfold M.holder at k
    refine ⟨_, rfl, _, _, _, _, _, rfl, hp, T.cl, T.n_piece_of, lk_piece_of .., _, _, _, _, rfl, rfl, SqL.of sh.p2, atI_nat (j := 1) (of3 h3 (by decide)), _, rfl, _, _, _, _, _, rfl, hp, T.cl, T.n_trimmed, lk_trimmed .., rfl, _, dI _ _, iteD (fun e => ?_) (fun e => ?_)⟩
    · rw [if_pos e] at k
      exact k
    · rw [if_neg e] at k
      exact k
theorem sm_parter : FnScope ["self"] ["self"] (defScope (md 4)) := ⟨rfl, rfl, rfl, by decide +kernel, rfl, by decide +kernel, by decide +kernel⟩
theorem mt_parter (T : Txt K mg C) : Mt P w K mg base C "parter" ["self"] 2 (spHold K C M.parter) := by
  have G_m_holder : Mt P w K mg base C "holder" _ 1 (spHold K C M.holder) := mt_holder T
  have G_third_of : Fn P w K mg base "third_of" _ 1 spThird := fn_third_of T
  refine T.m_parter.mt sm_parter (fun vs H Q E h => ?_) (fun f cdv A outer s H vs Q E hr h => ?_)
  · obtain ⟨p, l1, l2, l3, l4, m, rfl, _⟩ := h
    rfl
  · obtain ⟨p, l1, l2, l3, l4, m, rfl, sh, h3, k⟩ := h
    refine ⟨_, (pss_one (ps_ret (pe_fn G_third_of hr (pa_cons pe_int (pa_cons (pe_mt0 G_m_holder T.cl hr (pv 0)) pa_nil))))), ?_⟩
    obtain ⟨dx, vc, vt, hp, _, _⟩ := sh.ex
    refine ⟨_, rfl, p, dx, _, rfl, hp, lk_no _ _ _ _ _ _ _ _ _ (by decide +kernel), p, l1, l2, l3, l4, m, rfl, sh, h3, _, _, rfl, ?_⟩
    have e : (3 - 0 - ((m.holder : Nat) : Int)) = ((m.parter : Nat) : Int) := by
      unfold M.parter
      rcases holder_le m with z | z <;> rw [z] <;> rfl
    rw [e]
    exact k
theorem sm_person : FnScope ["self"] ["self"] (defScope (md 5)) := ⟨rfl, rfl, rfl, by decide +kernel, rfl, by decide +kernel, by decide +kernel⟩
theorem mt_person (T : Txt K mg C) : Mt P w K mg base C "person" ["self"] 3 (spHold K C M.person) := by
  have G_m_holder : Mt P w K mg base C "holder" _ 1 (spHold K C M.holder) := mt_holder T
  have G_m_parter : Mt P w K mg base C "parter" _ 2 (spHold K C M.parter) := mt_parter T
  refine T.m_person.mt sm_person (fun vs H Q E h => ?_) (fun f cdv A outer s H vs Q E hr h => ?_)
  · obtain ⟨p, l1, l2, l3, l4, m, rfl, _⟩ := h
    rfl
  · obtain ⟨p, l1, l2, l3, l4, m, rfl, sh, h3, k⟩ := h
    refine ⟨_, (pss_cons (ps_if (PW.pt (pw_or (pt_cmpR op_eq (pe_fld (pv 0) rfl) (pe_ci T.c_TRIM) (nomark _)) (pw_or1 (pt_cmpR op_eq (pe_fld (pv 0) rfl) (pe_ci T.c_PIECE_BY_ONE) (nomark _))))) (pss_one (ps_ret pe_int)) pss_nil) (pss_cons (ps_if (pt_cmpR op_eq (pe_fld (pv 0) rfl) (pe_ci T.c_PIECE_BY_TWO) (nomark _)) (pss_one (ps_ret pe_int)) pss_nil) (pss_cons (ps_if (pt_cmpR op_eq (pe_fld (pv 0) rfl) (pe_ci T.c_PART) (nomark _)) (pss_one (ps_ret (pe_mt0 G_m_parter T.cl hr (pv 0)))) pss_nil) (pss_cons (ps_if (pt_cmpR op_eq (pe_fld (pv 0) rfl) (pe_ci T.c_PART_BY_HOLDER) (nomark _)) (pss_one (ps_ret (pe_mt0 G_m_holder T.cl hr (pv 0)))) pss_nil) (pss_one (ps_ret pe_int)))))), ?_⟩
    obtain ⟨dx, vc, vt, hp, _, _⟩ := sh.ex
    unfold M.person at k
    refine ⟨_, rfl, _, _, _, _, _, rfl, hp, T.cl, T.n_stage, lk_stage .., rfl, _, dI _ 1, iteD (fun e1 => ?_) (fun e1 => ?_)⟩
    · rw [if_pos (.inl e1)] at k
      exact iteT k
    refine ⟨_, rfl, _, _, _, _, _, rfl, hp, T.cl, T.n_stage, lk_stage .., rfl, _, dI _ 3, iteD (fun e3 => ?_) (fun e3 => ?_)⟩
    · rw [if_pos (.inr e3)] at k
      exact k
    rw [if_neg (fun z => z.elim e1 e3)] at k
    refine ⟨_, rfl, _, _, _, _, _, rfl, hp, T.cl, T.n_stage, lk_stage .., rfl, _, dI _ 2, iteD (fun e2 => ?_) (fun e2 => ?_)⟩
    · rw [if_pos e2] at k
      exact k
    rw [if_neg e2] at k
    refine ⟨_, rfl, _, _, _, _, _, rfl, hp, T.cl, T.n_stage, lk_stage .., rfl, _, dI _ 4, iteD (fun e4 => ?_) (fun e4 => ?_)⟩
    · rw [if_pos e4] at k
      exact ⟨_, rfl, p, dx, _, rfl, hp, lk_no _ _ _ _ _ _ _ _ _ (by decide +kernel), p, l1, l2, l3, l4, m, rfl, sh, h3, k⟩
    rw [if_neg e4] at k
    refine ⟨_, rfl, _, _, _, _, _, rfl, hp, T.cl, T.n_stage, lk_stage .., rfl, _, dI _ 5, iteD (fun e5 => ?_) (fun e5 => ?_)⟩
    · rw [if_pos e5] at k
      exact ⟨_, rfl, p, dx, _, rfl, hp, lk_no _ _ _ _ _ _ _ _ _ (by decide +kernel), p, l1, l2, l3, l4, m, rfl, sh, h3, k⟩
    rw [if_neg e5] at k
    exact k
def spTurn (K : PySem.W.Frag) (C : Addr) : Sp := fun vs H Q _ => ∃ (p l1 l2 l3 l4 : Addr) (m : M), vs = [.ref p] ∧ Sh K C H p m l1 l2 l3 l4 ∧ m.po.length = 3 ∧ RetL H Q [.int (m.turn : Nat)]
theorem person_le (m : M) : m.person ≤ 2 := by
  unfold M.person M.parter
  have := holder_le m
  repeat' split
  all_goals omega
theorem sm_turn : FnScope ["self"] ["self"] (defScope (md 6)) := ⟨rfl, rfl, rfl, by decide +kernel, rfl, by decide +kernel, by decide +kernel⟩
theorem mt_turn (T : Txt K mg C) : Mt P w K mg base C "turn" ["self"] 4 (spTurn K C) := by
  have G_m_person : Mt P w K mg base C "person" _ 3 (spHold K C M.person) := mt_person T
  refine T.m_turn.mt sm_turn (fun vs H Q E h => ?_) (fun f cdv A outer s H vs Q E hr h => ?_)
  · obtain ⟨p, l1, l2, l3, l4, m, rfl, _⟩ := h
    rfl
  · obtain ⟨p, l1, l2, l3, l4, m, rfl, sh, h3, k⟩ := h
    refine ⟨_, (pss_cons (ps_if (pt_cmpR op_eq (pe_fld (pv 0) rfl) (pe_ci T.c_OVER) (nomark _)) (pss_one (ps_ret (pe_lst (pa_cons (pe_ci T.c_OVER) pa_nil)))) pss_nil) (pss_one (ps_ret (pe_lst (pa_cons (pe_op op_add (pe_fld (pv 0) rfl) (pe_op op_mulB pe_int (pe_mt0 G_m_person T.cl hr (pv 0)))) pa_nil))))), ?_⟩
    obtain ⟨dx, vc, vt, hp, _, _⟩ := sh.ex
    unfold M.turn at k
    refine ⟨_, rfl, _, _, _, _, _, rfl, hp, T.cl, T.n_stage, lk_stage .., rfl, _, dI _ 7, iteD (fun e => ?_) (fun e => ?_)⟩
    · rw [if_pos e] at k
      exact ⟨one_len, fun l hl => k _ l (same_new hl) hl upd_same⟩
    · rw [if_neg e] at k
      have bp : Bt ((m.person : Nat) : Int) := .of (b := 20) (Nat.lt_of_le_of_lt (person_le m) (by decide)) (by decide)
      exact ⟨_, rfl, _, _, _, _, _, rfl, hp, T.cl, T.n_stage, lk_stage .., _, rfl, p, dx, _, rfl, hp, lk_no _ _ _ _ _ _ _ _ _ (by decide +kernel), p, l1, l2, l3, l4, m, rfl, sh, h3, _, _, rfl, rfl, ⟨(by unfold Bt; decide), bp⟩, _, _, rfl, rfl, one_len, fun l hl => k _ l (same_new hl) hl upd_same⟩
end
end Ck

set_option Elab.async false
set_option linter.all false
set_option maxRecDepth 100000
set_option maxHeartbeats 2000000
namespace Ck
open PySem PySem.Spec PyProof.Rows L2
open Kv204 (lowest plus minus le best)
section
variable {X : Cx}
theorem mt_extT : MtM X "list.extend" (rExtT X.K) := by
  intro pins s σ H x vs v us Q I rx rv h
  obtain ⟨l, b, xs, zs, rfl, rfl, hH, hB, hz, q⟩ := h
  cases rx
  obtain ⟨u, rfl, ru⟩ := rv.one
  cases ru
  obtain ⟨z, its, n, r, hl, e⟩ := I.lstM hH
  obtain ⟨its2, r2, ⟨o2, e2, hc2, n2, hd2⟩, _⟩ := I.tuple hB
  obtain ⟨cl, dd, da, sl⟩ := o2
  have hc2 : cl = Value.type "tuple" := hc2
  have hd2 : da = Data.seq its2.toArray n2 := hd2
  subst hc2 hd2
  have hl2 := r2.length
  have hsz : its.toArray.size + its2.toArray.size ≤ sizeLine := by rw [List.size_toArray, List.size_toArray]; omega
  have hlong : ¬ (!its.toArray.isEmpty && Builtin.List.listTooLong (its.toArray.size + its2.toArray.size)) = true := by
    rw [notLongL hsz, Bool.and_false]
    exact Bool.false_ne_true
  refine call_meets F.slot_list_extend ⟨_, e, rfl⟩ F.entry_list_extend (F.args_list_extend_2 _ _)
    (ext_tup l its.toArray n b its2.toArray n2 dd sl hlong (by rw [List.size_toArray]; omega) (by omega)) ⟨e, e2, ?_⟩
  refine ⟨.non, _, I.lset (its' := its ++ its2) hH e (by simp) (r.append r2) ?_, rfl, q⟩
  rw [List.length_append]
  omega
end
section
variable {X : Cx} {e : Expr} {f : Str} {pos : Pos} {ta : TE} {K : PySem.W.Frag}
theorem pe_fldB (hK : X.K = K) (he : PE X e ta) (hb : attributeBase e f X.env (eval e X.env) = eval e X.env) : PE X (.Attribute e f pos) (tFld K ta f) := by
  rw [← hK]
  exact pe_fld he hb
theorem ix_listB (hK : X.K = K) : IxR X (rIxL K) := by
  rw [← hK]
  exact ix_list
end
theorem inV_nat (k : Nat) : ∀ l : List Nat, inV (V.int (k : Int)) (nv l) = l.contains k
  | [] => rfl
  | a :: l => by
    have ih := inV_nat k l
    unfold inV at ih ⊢
    rw [show nv (a :: l) = V.int (a : Int) :: nv l from rfl, List.any_cons, ih, List.contains_cons]
    congr 1
    show ((a : Int) == (k : Int)) = (k == a)
    rw [Bool.eq_iff_iff, beq_iff_eq, beq_iff_eq]
    omega
theorem flat_nv : ∀ l : List Nat, (nv l).all flatV = true
  | [] => rfl
  | a :: l => flat_nv l
theorem all_has (k : Nat) : ALL.contains k = decide (k ≤ 2) := by
  rw [Bool.eq_iff_iff, decide_eq_true_iff, List.contains_iff_mem]
  exact all2
theorem ixN_nat {n j : Nat} (h : j < n) : ixN n (j : Int) = some j := by
  unfold ixN
  rw [if_pos (by omega), if_pos (by omega)]
  rfl
section
variable {P : Program} {w : World} {K : PySem.W.Frag} {mg : Str → Option Value} {base : Heap} {C : Addr}
/-! ### choices -/
def spChoices (K : PySem.W.Frag) (C : Addr) : Sp := fun vs H Q _ => ∃ (p l1 l2 l3 l4 : Addr) (m : M), vs = [.ref p] ∧ Sh K C H p m l1 l2 l3 l4 ∧ Ok m ∧ RetL H Q (nv m.choices)
theorem sm_choices : FnScope ["self", "number"] ["self"] (defScope (md 7)) := ⟨rfl, rfl, rfl, by decide +kernel, rfl, by decide +kernel, by decide +kernel⟩
theorem mt_choices (T : Txt K mg C) : Mt P w K mg base C "choices" ["self"] 2 (spChoices K C) := by
  have G_m_holder : Mt P w K mg base C "holder" _ 1 (spHold K C M.holder) := mt_holder T
  refine T.m_choices.mt sm_choices (fun vs H Q E h => ?_) (fun f cdv A outer s H vs Q E hr h => ?_)
  · obtain ⟨p, l1, l2, l3, l4, m, rfl, _⟩ := h
    rfl
  · obtain ⟨p, l1, l2, l3, l4, m, rfl, sh, ok, k⟩ := h
    refine ⟨_, (pss_cons (ps_if (pt_cmpR op_eq (pe_fld (pv 0) rfl) (pe_ci T.c_PIECE_BY_ONE) (nomark _)) (pss_cons (ps_if (pt_cmpR op_ne (pe_ix ix_list (pe_fld (pv 0) rfl) pe_int (fun _ _ => rfl)) (pe_fld (pv 0) rfl) (nomark _)) (pss_one (ps_ret (pe_lst (pa_cons (pe_fld (pv 0) rfl) pa_nil)))) pss_nil) (pss_one (ps_ret (pe_lc (own := [("number", 1)]) rfl sm_choices.nd (pi_tup (pe_ct T.t_ALL_THREE)) (blkOk_by (by show blkC ["self", "number"] (defScope (md 7)) { kind := .function, names := [(".0", .local), ("number", .local), ("self", .free)], isGenerator := false, isCoroutine := false } [("number", 1)] = true; decide +kernel)) (fun _ _ _ _ _ => pg_name (i := 1) sm_choices.nd rfl (Or.inl rfl)) (fun _ _ _ _ _ => pts_one (pt_cmpR op_ne (pv 1) (pe_fldB (K := K) rfl (pv 0) rfl) (nomark _))) (fun _ _ _ _ _ => (pv 1)))))) pss_nil) (pss_cons (ps_if (pt_cmpR op_eq (pe_fld (pv 0) rfl) (pe_ci T.c_PART_BY_ZERO) (nomark _)) (pss_one (ps_ret (pe_lc (own := [("number", 1)]) rfl sm_choices.nd (pi_tup (pe_ct T.t_ALL_THREE)) (blkOk_by (by show blkC ["self", "number"] (defScope (md 7)) { kind := .function, names := [(".0", .local), ("number", .local), ("self", .free)], isGenerator := false, isCoroutine := false } [("number", 1)] = true; decide +kernel)) (fun _ _ _ _ _ => pg_name (i := 1) sm_choices.nd rfl (Or.inl rfl)) (fun _ _ _ _ _ => pts_one (pt_cmpR op_ne (pv 1) (pe_ix (ix_listB (K := K) rfl) (pe_fldB (K := K) rfl (pv 0) rfl) (pe_mt0 G_m_holder T.cl hr (pv 0)) (fun _ _ => rfl)) (nomark _))) (fun _ _ _ _ _ => (pv 1))))) pss_nil) (pss_one (ps_ret (pe_callTy call_list_of (by rfl) T.b_list bt_list (pa_cons (pe_ct T.t_ALL_THREE) pa_nil)))))), ?_⟩
    obtain ⟨dx, vc, vt, hp, _, _⟩ := sh.ex
    unfold M.choices at k
    refine ⟨_, rfl, _, _, _, _, _, rfl, hp, T.cl, T.n_stage, lk_stage .., rfl, _, dI _ 3, iteD (fun e3 => ?_) (fun e3 => ?_)⟩
    · rw [if_pos e3] at k
      refine ⟨_, rfl, _, _, _, _, _, rfl, hp, T.cl, T.n_piece_of, lk_piece_of .., _, _, _, _, rfl, rfl, SqL.of sh.p2, atI_nat (j := 2) (of3 ok.po (by decide)), _, rfl, _, _, _, _, _, rfl, hp, T.cl, T.n_trimmed, lk_trimmed .., rfl, _, dN _ _, iteND (fun e => ?_) (fun e => ?_)⟩
      · rw [if_neg (fun z => z e)] at k
        intro aA hA
        refine ⟨aA, rfl, ⟨_, hA _⟩, fun D hD => lc_tup (K := K) (a := aA) (xs := [.int 0, .int 1, .int 2]) (fun i H' => Same H H' ∧ H' D = some (.lst (nv ((ALL.take i).filter (· != m.trimmed))))) ⟨same_new hD, upd_same⟩ (fun _ _ _ _ => hA _) ?_ ?_⟩
        · rintro i xv H' hi ⟨e1, hD1⟩
          obtain ⟨j, hj, rfl⟩ := nv_get (l := ALL) hi
          have hp1 := e1 _ _ hp
          refine ⟨rfl, _, rfl, _, rfl, _, _, _, _, _, rfl, hp1, T.cl, T.n_trimmed, lk_trimmed .., rfl, _, dN _ _, iteND (fun ej => ⟨e1, ?_⟩) (fun ej => ⟨_, rfl, _, hD1, ?_, same_upd hD e1, ?_⟩)⟩
          · rw [filt_snoc hj, if_pos ej, List.append_nil]
            exact hD1
          · rw [List.length_map]
            exact Nat.lt_of_le_of_lt (filt_len m.trimmed i) (by decide)
          · rw [filt_snoc hj, if_neg ej]
            show upd _ _ _ _ = _
            rw [upd_same, nv, nv, List.map_append]
            rfl
        · rintro H1 ⟨e1, hD1⟩
          exact k H1 D e1 hD hD1
      · rw [if_pos e] at k
        exact ⟨_, rfl, _, _, _, _, _, rfl, hp, T.cl, T.n_trimmed, lk_trimmed .., one_len, fun l hl => k _ l (same_new hl) hl upd_same⟩
    · rw [if_neg e3] at k
      refine ⟨_, rfl, _, _, _, _, _, rfl, hp, T.cl, T.n_stage, lk_stage .., rfl, _, dI _ 6, iteD (fun e6 => ?_) (fun e6 => ?_)⟩
      · rw [if_pos e6] at k
        intro aA hA
        refine ⟨aA, rfl, ⟨_, hA _⟩, fun D hD => lc_tup (K := K) (a := aA) (xs := [.int 0, .int 1, .int 2]) (fun i H' => Same H H' ∧ H' D = some (.lst (nv ((ALL.take i).filter (· != m.pt.getD m.holder 0))))) ⟨same_new hD, upd_same⟩ (fun _ _ _ _ => hA _) ?_ ?_⟩
        · rintro i xv H' hi ⟨e1, hD1⟩
          obtain ⟨j, hj, rfl⟩ := nv_get (l := ALL) hi
          have hp1 := e1 _ _ hp
          have sh1 := sh.mono e1
          have hh : m.holder < 3 := by rcases holder_le m with z | z <;> rw [z] <;> decide
          refine ⟨rfl, _, rfl, _, rfl, _, _, _, _, _, rfl, hp1, T.cl, T.n_part_of, lk_part_of .., _, rfl, p, dx, _, rfl, hp1, lk_no _ _ _ _ _ _ _ _ _ (by decide +kernel), p, l1, l2, l3, l4, m, rfl, sh1, ok.po, _, _, _, _, rfl, rfl, SqL.of sh1.p4, atI_nat (of3 ok.pt hh), rfl, _, dN _ _, iteND (fun ej => ⟨e1, ?_⟩) (fun ej => ⟨_, rfl, _, hD1, ?_, same_upd hD e1, ?_⟩)⟩
          · rw [filt_snoc hj, if_pos ej, List.append_nil]
            exact hD1
          · rw [List.length_map]
            exact Nat.lt_of_le_of_lt (filt_len _ i) (by decide)
          · rw [filt_snoc hj, if_neg ej]
            show upd _ _ _ _ = _
            rw [upd_same, nv, nv, List.map_append]
            rfl
        · rintro H1 ⟨e1, hD1⟩
          exact k H1 D e1 hD hD1
      · rw [if_neg e6] at k
        intro aA hA
        exact ⟨aA, _, rfl, .inr (hA _), fun l hl => k _ l (same_new hl) hl upd_same⟩
/-! ### may_say -/
theorem OkP.big {n : Nat} {q : Kv204.At} (hn : n ≤ 64) (h : OkP n q) : Sz 1000 q := (h.sz hn).to
theorem lt1000 {a b : Nat} (h : a < 2 ^ b) (hb : b ≤ 1000 := by decide) : a < 2 ^ 1000 := Nat.lt_of_lt_of_le h (Nat.pow_le_pow_right (by decide) hb)
structure Small (t : Kv204.Told) : Prop where
  a : t.p.1 < 2 ^ 64
  b : t.p.2 < 2 ^ 64
  c : t.q.1 < 2 ^ 64
  d : t.q.2 < 2 ^ 64
theorem piece_get {m : M} {k : Nat} (hl : m.pieces.length = 3) (hk : k ≤ 2) : m.pieces[k]? = some (m.piece k) := getD_some (by omega)
theorem part_get {m : M} {k : Nat} (hl : m.parts.length = 3) (hk : k ≤ 2) : m.parts[k]? = some (m.part k) := getD_some (by omega)
def spMay (K : PySem.W.Frag) (C : Addr) : Sp := fun vs H Q _ => ∃ (p l1 l2 l3 l4 : Addr) (m : M) (x y : V) (t : Kv204.Told), vs = [.ref p, .int (t.which : Nat), x, y] ∧ Sh K C H p m l1 l2 l3 l4 ∧ Ok m ∧ PlV K H x t.p ∧ PlV K H y t.q ∧ Small t ∧ ∀ H', Same H H' → Q (.bl (m.maySay t)) H'
theorem sm_may_say : FnScope ["self", "which", "first", "second"] ["self", "which", "first", "second"] (defScope (md 8)) := ⟨rfl, rfl, rfl, by decide +kernel, rfl, by decide +kernel, by decide +kernel⟩
theorem mt_may_say (T : Txt K mg C) : Mt P w K mg base C "may_say" ["self", "which", "first", "second"] 4 (spMay K C) := by
  have G_m_choices : Mt P w K mg base C "choices" _ 2 (spChoices K C) := mt_choices T
  have G_may_cut : Fn P w K mg base "may_cut" _ 3 (spCut K) := fn_may_cut T
  have G_may_trim : Fn P w K mg base "may_trim" _ 3 (spTrm K) := fn_may_trim T
  refine T.m_may_say.mt sm_may_say (fun vs H Q E h => ?_) (fun f cdv A outer s H vs Q E hr h => ?_)
  · obtain ⟨p, l1, l2, l3, l4, m, x, y, t, rfl, _⟩ := h
    rfl
  · obtain ⟨p, l1, l2, l3, l4, m, x, y, t, rfl, sh, ok, hx, hy, sm, k⟩ := h
    refine ⟨_, (pss_cons (ps_if (pt_cmpR op_eq (pe_fld (pv 0) rfl) (pe_ci T.c_CUT) (nomark _)) (pss_one (ps_ret (pe_fn G_may_cut hr (pa_cons (pe_fld (pv 0) rfl) (pa_cons (pv 2) (pa_cons (pv 3) (pa_cons (pe_ci T.c_CUT_UNDER) pa_nil))))))) pss_nil) (pss_cons (ps_if (pt_cmpR op_eq (pe_fld (pv 0) rfl) (pe_ci T.c_TRIM) (nomark _)) (pss_one (ps_ret (pe_and (pe_cmpR op_in_seq (pv 1) (pe_ct T.t_ALL_THREE) (by with_unfolding_all rfl)) (pe_one (pe_fn G_may_trim hr (pa_cons (pe_ix ix_list (pe_fld (pv 0) rfl) (pv 1) (fun _ _ => rfl)) (pa_cons (pv 2) pa_nil))))))) pss_nil) (pss_cons (ps_if (pt_cmpR op_eq (pe_fld (pv 0) rfl) (pe_ci T.c_PART) (nomark _)) (pss_one (ps_ret (pe_fn G_may_cut hr (pa_cons (pe_fld (pv 0) rfl) (pa_cons (pv 2) (pa_cons (pv 3) (pa_cons (pe_ci T.c_PART_UNDER) pa_nil))))))) pss_nil) (pss_one (ps_ret (pe_cmpR op_in_seq (pv 1) (pe_mt0 G_m_choices T.cl hr (pv 0)) (by with_unfolding_all rfl))))))), ?_⟩
    obtain ⟨dx, vc, vt, hp, hvc, hvt⟩ := sh.ex
    unfold M.maySay at k
    refine ⟨_, rfl, _, _, _, _, _, rfl, hp, T.cl, T.n_stage, lk_stage .., rfl, _, dI _ 0, iteD (fun e0 => ?_) (fun e0 => ?_)⟩
    · rw [if_pos e0] at k
      have oc := okS_cake m
      exact ⟨_, rfl, _, _, _, _, _, rfl, hp, T.cl, T.n_cake, lk_cake .., _, rfl, _, rfl, _, _, _, m.cake, t.p, t.q, 4000, rfl, hvc, hx, hy, lt1000 (b := 20) (by decide), oc.a.big ok.n64, oc.b.big ok.n64, lt1000 sm.a, lt1000 sm.b, lt1000 sm.c, lt1000 sm.d, k H (.refl H)⟩
    rw [if_neg e0] at k
    refine ⟨_, rfl, _, _, _, _, _, rfl, hp, T.cl, T.n_stage, lk_stage .., rfl, _, dI _ 1, iteD (fun e1 => ?_) (fun e1 => ?_)⟩
    · rw [if_pos e1] at k
      refine ⟨_, rfl, fun aA hA => ⟨aA, _, rfl, .inr (hA _), rfl, rfl, decide (t.which ≤ 2), congrArg V.bl ((inV_nat t.which ALL).trans (all_has _)), iteD (fun hk => ?_) (fun hk => ?_)⟩⟩
      · rw [decide_eq_true hk, Bool.true_and] at k
        have hl := ok.pl (by rw [e1]; decide)
        obtain ⟨xs, hxs, sts⟩ := sh.p1
        obtain ⟨v, hv, stv⟩ := sts.get (piece_get hl hk)
        have okp : OkS m.cells (m.piece t.which) := ok.pcs _ (List.mem_of_getElem? (piece_get hl hk))
        exact ⟨_, rfl, _, _, _, _, _, rfl, hp, T.cl, T.n_pieces, lk_pieces .., _, rfl, _, _, _, _, rfl, rfl, SqL.of hxs, atI_nat hv, _, rfl, _, _, m.piece t.which, t.p, rfl, stv, hx, okp.a.big ok.n64, okp.b.big ok.n64, lt1000 sm.a, lt1000 sm.b, k H (.refl H)⟩
      · rw [decide_eq_false hk, Bool.false_and] at k
        exact k H (.refl H)
    rw [if_neg e1] at k
    refine ⟨_, rfl, _, _, _, _, _, rfl, hp, T.cl, T.n_stage, lk_stage .., rfl, _, dI _ 4, iteD (fun e4 => ?_) (fun e4 => ?_)⟩
    · rw [if_pos e4] at k
      have oc := ok.trm
      exact ⟨_, rfl, _, _, _, _, _, rfl, hp, T.cl, T.n_trimmings, lk_trimmings .., _, rfl, _, rfl, _, _, _, m.trimmings, t.p, t.q, 288230376151711744, rfl, hvt, hx, hy, lt1000 (b := 60) (by decide), oc.a.big ok.n64, oc.b.big ok.n64, lt1000 sm.a, lt1000 sm.b, lt1000 sm.c, lt1000 sm.d, k H (.refl H)⟩
    rw [if_neg e4] at k
    refine ⟨_, rfl, _, rfl, p, dx, _, rfl, hp, lk_no _ _ _ _ _ _ _ _ _ (by decide +kernel), p, l1, l2, l3, l4, m, rfl, sh, ok, fun H' l e n hl => ⟨l, _, rfl, .inl (SqL.of hl), rfl, flat_nv _, ?_⟩⟩
    have k' := k H' e
    rw [← inV_nat] at k'
    exact k'
end
end Ck

set_option Elab.async false
set_option linter.all false
set_option maxRecDepth 100000
set_option maxHeartbeats 2000000
namespace Ck
open PySem PySem.Spec PyProof.Rows L2
open Kv204 (lowest plus minus le best)
/-! ### what a write leaves -/
structure Kf (p : Addr) (ow : List Addr) (H H' : Hp) : Prop where
  kp : ∀ b o, H b = some o → b ≠ p → b ∉ ow → H' b = some o
  dm : ∀ b, H' b = none → H b = none
section
variable {p : Addr} {ow : List Addr} {H H1 H2 : Hp}
theorem Kf.same (e : Same H H1) : Kf p ow H H1 := ⟨fun b o h _ _ => e b o h, fun b h => e.free h⟩
theorem Kf.new {a : Addr} {o : HO} (n : H a = none) : Kf p ow H (upd H a o) := .same (same_new n)
theorem dm_upd {a b : Addr} {o : HO} (h : upd H a o b = none) : H b = none := by
  by_cases e : b = a
  · subst e
    rw [upd_same] at h
    cases h
  · rw [upd_ne e] at h
    exact h
theorem Kf.put {o : HO} : Kf p ow H (upd H p o) := ⟨fun b u h n _ => by rw [upd_ne n]; exact h, fun b h => dm_upd h⟩
theorem Kf.list {l : Addr} {o : HO} (hl : l ∈ ow) : Kf p ow H (upd H l o) := ⟨fun b u h _ n => by rw [upd_ne (fun z => n (by rw [z]; exact hl))]; exact h, fun b h => dm_upd h⟩
theorem Kf.trans (a : Kf p ow H H1) (b : Kf p ow H1 H2) : Kf p ow H H2 := ⟨fun c o h n k => b.kp c o (a.kp c o h n k) n k, fun c h => a.dm c (b.dm c h)⟩
theorem Kf.step {ow1 : List Addr} (a : Kf p ow H H1) (fr : ∀ x ∈ ow1, x ∈ ow ∨ H x = none) (b : Kf p ow1 H1 H2) : Kf p ow H H2 := by
  refine ⟨fun c o h n k => b.kp c o (a.kp c o h n k) n (fun z => ?_), fun c h => a.dm c (b.dm c h)⟩
  rcases fr c z with q | q
  · exact k q
  · rw [q] at h
    cases h
end
section
variable {K : PySem.W.Frag} {C p l1 l2 l3 l4 : Addr} {H H' : Hp} {m : M}
theorem Sh.apart {a : Addr} {u : HO} (h : Sh K C H p m l1 l2 l3 l4) (hu : H a = some u) (n1 : ∀ xs, u ≠ .lst xs) (n2 : ∀ c d fs, u ≠ .ins c d fs) : a ≠ p ∧ a ∉ [l1, l2, l3, l4] := by
  obtain ⟨dx, vc, vt, hp, _, _⟩ := h.ex
  obtain ⟨x1, a1, _⟩ := h.p1
  obtain ⟨x3, a3, _⟩ := h.p3
  have a2 := h.p2
  have a4 := h.p4
  refine ⟨ne_of hu hp (n2 _ _ _), fun z => ?_⟩
  simp only [List.mem_cons, List.not_mem_nil, or_false] at z
  rcases z with rfl | rfl | rfl | rfl
  · rw [a1] at hu; exact n1 _ (Option.some.inj hu).symm
  · rw [a2] at hu; exact n1 _ (Option.some.inj hu).symm
  · rw [a3] at hu; exact n1 _ (Option.some.inj hu).symm
  · rw [a4] at hu; exact n1 _ (Option.some.inj hu).symm
theorem Kf.tup {a : Addr} {xs : List V} (e : Kf p [l1, l2, l3, l4] H H') (h : Sh K C H p m l1 l2 l3 l4) (q : SqT K H a xs) : SqT K H' a xs := by
  rcases q with (q | ⟨o, q⟩) | q
  · obtain ⟨a1, a2⟩ := h.apart q (by intro _ z; cases z) (by intro _ _ _ z; cases z)
    exact .inl (.inl (e.kp _ _ q a1 a2))
  · obtain ⟨a1, a2⟩ := h.apart q (by intro _ z; cases z) (by intro _ _ _ z; cases z)
    exact .inl (.inr ⟨o, e.kp _ _ q a1 a2⟩)
  · exact .inr q
theorem Kf.pl {x : V} {q : Kv204.At} (e : Kf p [l1, l2, l3, l4] H H') (h : Sh K C H p m l1 l2 l3 l4) (hx : PlV K H x q) : PlV K H' x q := by
  obtain ⟨a, rfl, hx⟩ := hx
  exact ⟨a, rfl, e.tup h hx⟩
theorem Kf.st {x : V} {q : Kv204.Stretch} (e : Kf p [l1, l2, l3, l4] H H') (h : Sh K C H p m l1 l2 l3 l4) (hx : StV K H x q) : StV K H' x q := by
  obtain ⟨a, y, z, rfl, hx, h1, h2⟩ := hx
  exact ⟨a, y, z, rfl, e.tup h hx, e.pl h h1, e.pl h h2⟩
theorem Kf.sts (e : Kf p [l1, l2, l3, l4] H H') (h : Sh K C H p m l1 l2 l3 l4) : ∀ {xs : List V} {ss : List Kv204.Stretch}, Sts K H xs ss → Sts K H' xs ss
  | _, _, .nil => .nil
  | _, _, .cons a b => .cons (e.st h a) (Kf.sts e h b)
/-- fields are written -/
theorem Sh.put (h : Sh K C H p m l1 l2 l3 l4) {m' : M} {dx k1 k3 : Addr} {vc vt : V} (hc : StV K H vc m'.cake) (ht : StV K H vt m'.trimmings) (h1 : ∃ xs, H k1 = some (.lst xs) ∧ Sts K H xs m'.pieces) (e2 : m'.po = m.po)
    (h3 : ∃ xs, H k3 = some (.lst xs) ∧ Sts K H xs m'.parts) (e4 : m'.pt = m.pt) (d12 : k1 ≠ l2) (d13 : k1 ≠ k3) (d14 : k1 ≠ l4) (d23 : l2 ≠ k3) (d34 : k3 ≠ l4) :
    Sh K C (upd H p (.ins C dx (flds vc m'.cells m'.stage k1 l2 m'.trimmed vt k3 l4))) p m' k1 l2 k3 l4 := by
  obtain ⟨dx0, vc0, vt0, hp, _, _⟩ := h.ex
  obtain ⟨x1, a1, b1⟩ := h1
  obtain ⟨x3, a3, b3⟩ := h3
  have e : Kp p H (upd H p (.ins C dx (flds vc m'.cells m'.stage k1 l2 m'.trimmed vt k3 l4))) := Kp.put
  refine ⟨⟨dx, vc, vt, upd_same, e.st hp hc, e.st hp ht⟩, ⟨x1, e.lst hp a1, e.sts hp b1⟩, ?_, ⟨x3, e.lst hp a3, e.sts hp b3⟩, ?_, d12, d13, d14, d23, h.d24, d34⟩
  · rw [e2]
    exact e.lst hp h.p2
  · rw [e4]
    exact e.lst hp h.p4
theorem Sh.set1 (h : Sh K C H p m l1 l2 l3 l4) {ys : List V} {ps : List Kv204.Stretch} (hs : Sts K H ys ps) : Sh K C (upd H l1 (.lst ys)) p { m with pieces := ps } l1 l2 l3 l4 := by
  obtain ⟨dx, vc, vt, hp, hc, ht⟩ := h.ex
  obtain ⟨x1, a1, b1⟩ := h.p1
  obtain ⟨x3, a3, b3⟩ := h.p3
  have e : Kf p [l1, l2, l3, l4] H (upd H l1 (.lst ys)) := Kf.list (by simp)
  exact ⟨⟨dx, vc, vt, (upd_ne (ne_of hp a1 (by intro z; cases z))).trans hp, e.st h hc, e.st h ht⟩, ⟨ys, upd_same, e.sts h hs⟩, (upd_ne (Ne.symm h.d12)).trans h.p2, ⟨x3, (upd_ne (Ne.symm h.d13)).trans a3, e.sts h b3⟩, (upd_ne (Ne.symm h.d14)).trans h.p4, h.d12, h.d13, h.d14, h.d23, h.d24, h.d34⟩
theorem Sh.set2 (h : Sh K C H p m l1 l2 l3 l4) (po : List Nat) : Sh K C (upd H l2 (.lst (nv po))) p { m with po := po } l1 l2 l3 l4 := by
  obtain ⟨dx, vc, vt, hp, hc, ht⟩ := h.ex
  obtain ⟨x1, a1, b1⟩ := h.p1
  obtain ⟨x3, a3, b3⟩ := h.p3
  have e : Kf p [l1, l2, l3, l4] H (upd H l2 (.lst (nv po))) := Kf.list (by simp)
  exact ⟨⟨dx, vc, vt, (upd_ne (ne_of hp h.p2 (by intro z; cases z))).trans hp, e.st h hc, e.st h ht⟩, ⟨x1, (upd_ne h.d12).trans a1, e.sts h b1⟩, upd_same, ⟨x3, (upd_ne (Ne.symm h.d23)).trans a3, e.sts h b3⟩, (upd_ne (Ne.symm h.d24)).trans h.p4, h.d12, h.d13, h.d14, h.d23, h.d24, h.d34⟩
theorem Sh.set4 (h : Sh K C H p m l1 l2 l3 l4) (pt : List Nat) : Sh K C (upd H l4 (.lst (nv pt))) p { m with pt := pt } l1 l2 l3 l4 := by
  obtain ⟨dx, vc, vt, hp, hc, ht⟩ := h.ex
  obtain ⟨x1, a1, b1⟩ := h.p1
  obtain ⟨x3, a3, b3⟩ := h.p3
  have e : Kf p [l1, l2, l3, l4] H (upd H l4 (.lst (nv pt))) := Kf.list (by simp)
  exact ⟨⟨dx, vc, vt, (upd_ne (ne_of hp h.p4 (by intro z; cases z))).trans hp, e.st h hc, e.st h ht⟩, ⟨x1, (upd_ne h.d14).trans a1, e.sts h b1⟩, (upd_ne h.d24).trans h.p2, ⟨x3, (upd_ne h.d34).trans a3, e.sts h b3⟩, upd_same, h.d12, h.d13, h.d14, h.d23, h.d24, h.d34⟩
end
/-- what a method that answers nothing leaves -/
structure Pv (K : PySem.W.Frag) (C : Addr) (H : Hp) (p : Addr) (ow : List Addr) (m' : M) (H' : Hp) : Prop where
  sh : ∃ l1 l2 l3 l4, Sh K C H' p m' l1 l2 l3 l4 ∧ ∀ x ∈ [l1, l2, l3, l4], x ∈ ow ∨ H x = none
  kf : Kf p ow H H'
section
variable {K : PySem.W.Frag} {C p l1 l2 l3 l4 l : Addr} {H H1 H2 : Hp} {m m' : M} {ow ow1 : List Addr} {xs : List V}
theorem Pv.of (h : Sh K C H1 p m' l1 l2 l3 l4) (k : Kf p [l1, l2, l3, l4] H H1) : Pv K C H p [l1, l2, l3, l4] m' H1 := ⟨⟨l1, l2, l3, l4, h, fun x hx => .inl hx⟩, k⟩
theorem Pv.step (a : Kf p ow H H1) (fr : ∀ x ∈ ow1, x ∈ ow ∨ H x = none) (b : Pv K C H1 p ow1 m' H2) : Pv K C H p ow m' H2 := by
  obtain ⟨k1, k2, k3, k4, s, f⟩ := b.sh
  refine ⟨⟨k1, k2, k3, k4, s, fun x hx => ?_⟩, a.step fr b.kf⟩
  rcases f x hx with q | q
  · exact fr x q
  · exact .inr (a.dm x q)
theorem Pv.po (v : Pv K C H p ow m' H1) (n : H1 l = none) : Po K C H p ow m' xs (upd H1 l (.lst xs)) l := by
  obtain ⟨k1, k2, k3, k4, s, f⟩ := v.sh
  exact ⟨⟨k1, k2, k3, k4, s.mono (same_new n), f, s.out n⟩, fun b o h h1 h2 => same_new n b o (v.kf.kp b o h h1 h2), upd_same, v.kf.dm l n⟩
end
theorem nine {vc : V} {n st : Nat} {l1 l2 : Addr} {tr : Nat} {vt : V} {l3 l4 : Addr} : (flds vc n st l1 l2 tr vt l3 l4).length < 1000 := by show 9 < 1000; decide
theorem list3 {l : List Nat} (h : l.length = 3) : ∃ a b c, l = [a, b, c] := by
  match l, h with
  | [a, b, c], _ => exact ⟨a, b, c, rfl⟩
section
variable {P : Program} {w : World} {K : PySem.W.Frag} {mg : Str → Option Value} {base : Heap} {C : Addr}
/-! ### trim -/
def spTrim (K : PySem.W.Frag) (C : Addr) : Sp := fun vs H Q _ => ∃ (p l1 l2 l3 l4 : Addr) (m : M) (k : Nat) (x : V) (t : Kv204.At), vs = [.ref p, .int k, x] ∧ Sh K C H p m l1 l2 l3 l4 ∧ m.pieces.length = 3 ∧ k ≤ 2 ∧ PlV K H x t ∧ ∀ H', Pv K C H p [l1, l2, l3, l4] (m.trim k t) H' → Q .non H'
theorem sm_trim : FnScope ["self", "which", "place", "piece"] ["self", "which", "place"] (defScope (md 10)) := ⟨rfl, rfl, rfl, by decide +kernel, rfl, by decide +kernel, by decide +kernel⟩
theorem mt_trim (T : Txt K mg C) : Mt P w K mg base C "trim" ["self", "which", "place"] 1 (spTrim K C) := by
  refine T.m_trim.mt sm_trim (fun vs H Q E h => ?_) (fun f cdv A outer s H vs Q E hr h => ?_)
  · obtain ⟨p, l1, l2, l3, l4, m, k, x, t, rfl, _⟩ := h
    rfl
  · obtain ⟨p, l1, l2, l3, l4, m, k, x, t, rfl, sh, hl, hk, hx, q⟩ := h
    refine ⟨_, (pss_cons (ps_set (i := 3) sm_trim.nd rfl (Or.inl rfl) (pe_ix ix_list (pe_fld (pv 0) rfl) (pv 1) (fun _ _ => rfl))) (pss_cons (ps_fld (pv 0) (pv 1) rfl) (pss_cons (ps_fld (pv 0) (pe_tup (pa_cons (pv 2) (pa_cons (pe_ix ix_tup (pv 3) pe_int (fun _ _ => rfl)) pa_nil))) rfl) (pss_one (ps_asg (pe_tup (pa_cons (pe_ix ix_tup (pv 3) pe_int (fun _ _ => rfl)) (pa_cons (pv 2) pa_nil))) (pg_sub (pe_fld (pv 0) rfl) (pv 1) set_list)))))), ?_⟩
    obtain ⟨dx, vc, vt, hp, hvc, hvt⟩ := sh.ex
    obtain ⟨xs, hxs, sts⟩ := sh.p1
    obtain ⟨v, hv, a, y1, y2, rfl, ha, h1, h2⟩ := sts.get (piece_get hl hk)
    refine ⟨_, rfl, _, _, _, _, _, rfl, hp, T.cl, T.n_pieces, lk_pieces .., _, rfl, _, _, _, _, rfl, rfl, SqL.of hxs, atI_nat hv, ?_⟩
    -- self.trimmed = which
    refine ⟨_, rfl, _, rfl, _, _, _, _, rfl, hp, T.cl, T.n_trimmed, nine, ?_⟩
    have s1 := sh.put (m' := { m with trimmed := k }) (dx := dx) (vc := vc) (vt := vt) hvc hvt sh.p1 rfl sh.p3 rfl sh.d12 sh.d13 sh.d14 sh.d23 sh.d34
    have e1 : Kf p [l1, l2, l3, l4] H (upd H p (.ins C dx (flds vc m.cells m.stage l1 l2 k vt l3 l4))) := Kf.put
    have ha1 := e1.tup sh ha
    -- self.trimmings = (place, piece[1])
    refine ⟨_, rfl, _, rfl, _, _, _, _, rfl, rfl, ha1, rfl, two_len, fun t1 n1 => ?_⟩
    have s2 := s1.mono (same_new (o := .tup [x, y2]) n1)
    have e2 := e1.trans (Kf.new (o := .tup [x, y2]) n1)
    have ht2 := StV.new (K := K) (s := (t, (m.piece k).2)) n1 (e1.pl sh hx) (e1.pl sh h2)
    have hp2 := hpA (o := .tup [x, y2]) n1 (upd_same (H := H) (a := p) (o := .ins C dx (flds vc m.cells m.stage l1 l2 k vt l3 l4)))
    refine ⟨_, rfl, _, _, _, _, rfl, hp2, T.cl, T.n_trimmings, nine, ?_⟩
    have s3 := s2.put (m' := { m with trimmed := k, trimmings := (t, (m.piece k).2) }) (dx := dx) (vc := vc) (vt := .ref t1) (e2.st sh hvc) ht2 s2.p1 rfl s2.p3 rfl s2.d12 s2.d13 s2.d14 s2.d23 s2.d34
    have e3 := e2.trans (Kf.put (o := .ins C dx (flds vc m.cells m.stage l1 l2 k (.ref t1) l3 l4)))
    have ha3 := e3.tup sh ha
    -- self.pieces[which] = (piece[0], place)
    refine ⟨_, rfl, _, _, _, _, rfl, rfl, ha3, rfl, _, rfl, two_len, fun t2 n2 => ?_⟩
    have s4 := s3.mono (same_new (o := .tup [y1, x]) n2)
    have e4 := e3.trans (Kf.new (o := .tup [y1, x]) n2)
    have hn2 := StV.new (K := K) (s := ((m.piece k).1, t)) n2 (e3.pl sh h1) (e3.pl sh hx)
    obtain ⟨dx4, vc4, vt4, hp4, _, _⟩ := s4.ex
    obtain ⟨xs4, hxs4, sts4⟩ := s4.p1
    refine ⟨_, rfl, _, _, _, _, _, rfl, hp4, T.cl, T.n_pieces, lk_pieces .., _, rfl, l1, _, _, _, rfl, rfl, hxs4, ixN_nat (j := k) (by rw [sts4.len]; show k < m.pieces.length; omega), ?_⟩
    have s5 := s4.set1 (sts4.set hn2 k)
    exact q _ (.of s5 (e4.trans (Kf.list (by simp))))
/-! ### choose -/
theorem set_nv (l : List Nat) (i k : Nat) : (nv l).set i (V.int (k : Int)) = nv (l.set i k) := by
  rw [nv, nv, List.map_set]
def spChoose (K : PySem.W.Frag) (C : Addr) : Sp := fun vs H Q _ => ∃ (p l1 l2 l3 l4 : Addr) (m : M) (k : Nat), vs = [.ref p, .int k] ∧ Sh K C H p m l1 l2 l3 l4 ∧ Ok m ∧ (m.stage = 3 → k + m.po.getD 2 0 ≤ 3) ∧ (m.stage = 6 → k + m.pt.getD m.holder 0 ≤ 3) ∧ (m.stage = 2 ∨ m.stage = 3 ∨ m.stage = 5 ∨ m.stage = 6) ∧
  ∀ H', Pv K C H p [l1, l2, l3, l4] (m.choose k) H' → Q .non H'
theorem sub3 {a b : Nat} (h : a + b ≤ 3) : (3 - (a : Int) - (b : Int)) = ((3 - a - b : Nat) : Int) := by omega
theorem sm_choose : FnScope ["self", "which"] ["self", "which"] (defScope (md 11)) := ⟨rfl, rfl, rfl, by decide +kernel, rfl, by decide +kernel, by decide +kernel⟩
theorem mt_choose (T : Txt K mg C) : Mt P w K mg base C "choose" ["self", "which"] 3 (spChoose K C) := by
  have G_m_holder : Mt P w K mg base C "holder" _ 1 (spHold K C M.holder) := mt_holder T
  have G_m_parter : Mt P w K mg base C "parter" _ 2 (spHold K C M.parter) := mt_parter T
  have G_third_of : Fn P w K mg base "third_of" _ 1 spThird := fn_third_of T
  refine T.m_choose.mt sm_choose (fun vs H Q E h => ?_) (fun f cdv A outer s H vs Q E hr h => ?_)
  · obtain ⟨p, l1, l2, l3, l4, m, k, rfl, _⟩ := h
    rfl
  · obtain ⟨p, l1, l2, l3, l4, m, k, rfl, sh, ok, s3, s6, st, q⟩ := h
    refine ⟨_, (pss_one (ps_if (pt_cmpR op_eq (pe_fld (pv 0) rfl) (pe_ci T.c_PIECE_BY_TWO) (nomark _)) (pss_one (ps_asg (pv 1) (pg_sub (pe_fld (pv 0) rfl) pe_int set_list))) (pss_one (ps_if (pt_cmpR op_eq (pe_fld (pv 0) rfl) (pe_ci T.c_PIECE_BY_ONE) (nomark _)) (pss_cons (ps_asg (pv 1) (pg_sub (pe_fld (pv 0) rfl) pe_int set_list)) (pss_one (ps_asg (pe_fn G_third_of hr (pa_cons (pv 1) (pa_cons (pe_ix ix_list (pe_fld (pv 0) rfl) pe_int (fun _ _ => rfl)) pa_nil))) (pg_sub (pe_fld (pv 0) rfl) pe_int set_list)))) (pss_one (ps_if (pt_cmpR op_eq (pe_fld (pv 0) rfl) (pe_ci T.c_PART_BY_HOLDER) (nomark _)) (pss_one (ps_asg (pv 1) (pg_sub (pe_fld (pv 0) rfl) (pe_mt0 G_m_holder T.cl hr (pv 0)) set_list))) (pss_cons (ps_asg (pv 1) (pg_sub (pe_fld (pv 0) rfl) pe_int set_list)) (pss_one (ps_asg (pe_fn G_third_of hr (pa_cons (pv 1) (pa_cons (pe_ix ix_list (pe_fld (pv 0) rfl) (pe_mt0 G_m_holder T.cl hr (pv 0)) (fun _ _ => rfl)) pa_nil))) (pg_sub (pe_fld (pv 0) rfl) (pe_mt0 G_m_parter T.cl hr (pv 0)) set_list)))))))))), ?_⟩
    obtain ⟨dx, vc, vt, hp, _, _⟩ := sh.ex
    unfold M.choose at q
    refine ⟨_, rfl, _, _, _, _, _, rfl, hp, T.cl, T.n_stage, lk_stage .., rfl, _, dI _ 2, iteD (fun e2 => ?_) (fun e2 => ?_)⟩
    · rw [if_pos e2] at q
      refine ⟨_, rfl, _, rfl, _, _, _, _, _, rfl, hp, T.cl, T.n_piece_of, lk_piece_of .., l2, _, _, _, rfl, rfl, sh.p2, ixN_nat (j := 2) (by rw [List.length_map, ok.po]; decide), ?_⟩
      rw [set_nv]
      exact q _ (.of (sh.set2 _) (Kf.list (by simp)))
    rw [if_neg e2] at q
    refine ⟨_, rfl, _, _, _, _, _, rfl, hp, T.cl, T.n_stage, lk_stage .., rfl, _, dI _ 3, iteD (fun e3 => ?_) (fun e3 => ?_)⟩
    · rw [if_pos e3] at q
      refine ⟨_, rfl, _, rfl, _, _, _, _, _, rfl, hp, T.cl, T.n_piece_of, lk_piece_of .., l2, _, _, _, rfl, rfl, sh.p2, ixN_nat (j := 1) (by rw [List.length_map, ok.po]; decide), ?_⟩
      rw [set_nv]
      have sh1 := sh.set2 (m.po.set 1 k)
      obtain ⟨dx1, vc1, vt1, hp1, _, _⟩ := sh1.ex
      have e20 : (m.po.set 1 k)[2]? = some (m.po.getD 2 0) := by
        obtain ⟨a, b, c, e⟩ := list3 ok.po
        rw [e]
        rfl
      refine ⟨_, rfl, _, rfl, _, _, _, _, _, rfl, hp1, T.cl, T.n_piece_of, lk_piece_of .., _, _, _, _, rfl, rfl, SqL.of sh1.p2, atI_nat (j := 2) (WoV.get e20), _, _, rfl, _, rfl, _, _, _, _, _, rfl, hp1, T.cl, T.n_piece_of, lk_piece_of .., l2, _, _, _, rfl, rfl, sh1.p2, ixN_nat (j := 0) (by rw [List.length_map, List.length_set, ok.po]; decide), ?_⟩
      rw [sub3 (s3 e3), set_nv]
      exact q _ (.of (sh1.set2 _) ((Kf.list (by simp)).trans (Kf.list (by simp))))
    rw [if_neg e3] at q
    have hh : m.holder < 3 := by rcases holder_le m with z | z <;> rw [z] <;> decide
    refine ⟨_, rfl, _, _, _, _, _, rfl, hp, T.cl, T.n_stage, lk_stage .., rfl, _, dI _ 5, iteD (fun e5 => ?_) (fun e5 => ?_)⟩
    · rw [if_pos e5] at q
      refine ⟨_, rfl, _, rfl, _, _, _, _, _, rfl, hp, T.cl, T.n_part_of, lk_part_of .., _, rfl, p, dx, _, rfl, hp, lk_no _ _ _ _ _ _ _ _ _ (by decide +kernel), p, l1, l2, l3, l4, m, rfl, sh, ok.po, l4, _, _, _, rfl, rfl, sh.p4, ixN_nat (j := m.holder) (by rw [List.length_map, ok.pt]; exact hh), ?_⟩
      rw [set_nv]
      exact q _ (.of (sh.set4 _) (Kf.list (by simp)))
    rw [if_neg e5] at q
    have e6 : m.stage = 6 := by omega
    refine ⟨_, rfl, _, rfl, _, _, _, _, _, rfl, hp, T.cl, T.n_part_of, lk_part_of .., l4, _, _, _, rfl, rfl, sh.p4, ixN_nat (j := 0) (by rw [List.length_map, ok.pt]; decide), ?_⟩
    rw [set_nv]
    have sh1 := sh.set4 (m.pt.set 0 k)
    obtain ⟨dx1, vc1, vt1, hp1, _, _⟩ := sh1.ex
    have e20 : (m.pt.set 0 k)[m.holder]? = some (m.pt.getD m.holder 0) := by
      obtain ⟨a, b, c, e⟩ := list3 ok.pt
      rw [e]
      rcases holder_le m with z | z <;> rw [z] <;> rfl
    have hq : m.parter < 3 := by
      have := holder_le m
      unfold M.parter
      omega
    refine ⟨_, rfl, _, rfl, _, _, _, _, _, rfl, hp1, T.cl, T.n_part_of, lk_part_of .., _, rfl, p, dx1, _, rfl, hp1, lk_no _ _ _ _ _ _ _ _ _ (by decide +kernel), p, l1, l2, l3, l4, _, rfl, sh1, ok.po, _, _, _, _, rfl, rfl, SqL.of sh1.p4, atI_nat (j := m.holder) (WoV.get e20), _, _, rfl, _, rfl, _, _, _, _, _, rfl, hp1, T.cl, T.n_part_of, lk_part_of .., _, rfl, p, dx1, _, rfl, hp1, lk_no _ _ _ _ _ _ _ _ _ (by decide +kernel), p, l1, l2, l3, l4, _, rfl, sh1, ok.po, l4, _, _, _, rfl, rfl, sh1.p4, ixN_nat (j := m.parter) (by rw [List.length_map, List.length_set, ok.pt]; exact hq), ?_⟩
    rw [sub3 (s6 e6), set_nv]
    exact q _ (.of (sh1.set4 _) ((Kf.list (by simp)).trans (Kf.list (by simp))))
/-! ### end_without_trimmings -/
def spEnd (K : PySem.W.Frag) (C : Addr) : Sp := fun vs H Q _ => ∃ (p l1 l2 l3 l4 : Addr) (m : M), vs = [.ref p] ∧ Sh K C H p m l1 l2 l3 l4 ∧ ∀ H', Pv K C H p [l1, l2, l3, l4] m.ended H' → Q .non H'
theorem sm_end_without_trimmings : FnScope ["self"] ["self"] (defScope (md 12)) := ⟨rfl, rfl, rfl, by decide +kernel, rfl, by decide +kernel, by decide +kernel⟩
theorem mt_end (T : Txt K mg C) : Mt P w K mg base C "end_without_trimmings" ["self"] 1 (spEnd K C) := by
  refine T.m_end_without_trimmings.mt sm_end_without_trimmings (fun vs H Q E h => ?_) (fun f cdv A outer s H vs Q E hr h => ?_)
  · obtain ⟨p, l1, l2, l3, l4, m, rfl, _⟩ := h
    rfl
  · obtain ⟨p, l1, l2, l3, l4, m, rfl, sh, q⟩ := h
    refine ⟨_, (pss_cons (ps_fld (pv 0) (pe_lst (pa_cons (pe_fld (pv 0) rfl) (pa_cons (pe_fld (pv 0) rfl) (pa_cons (pe_fld (pv 0) rfl) pa_nil)))) rfl) (pss_one (ps_fld (pv 0) (pe_ci T.c_OVER) rfl))), ?_⟩
    obtain ⟨dx, vc, vt, hp, hvc, hvt⟩ := sh.ex
    refine ⟨_, rfl, _, _, _, _, _, rfl, hp, T.cl, T.n_trimmings, lk_trimmings .., _, rfl, _, _, _, _, _, rfl, hp, T.cl, T.n_trimmings, lk_trimmings .., _, rfl, _, _, _, _, _, rfl, hp, T.cl, T.n_trimmings, lk_trimmings .., three_len, fun l nl => ?_⟩
    have s1 := sh.mono (same_new (o := .lst [vt, vt, vt]) nl)
    have hp1 := hpA (o := .lst [vt, vt, vt]) nl hp
    have hvc1 := hvc.mono (same_new (o := .lst [vt, vt, vt]) nl)
    have hvt1 := hvt.mono (same_new (o := .lst [vt, vt, vt]) nl)
    refine ⟨_, rfl, _, _, _, _, rfl, hp1, T.cl, T.n_parts, nine, ?_⟩
    obtain ⟨x1, a1, b1⟩ := sh.p1
    have n1 : l1 ≠ l := ne_of_none a1 nl
    have n2 : l2 ≠ l := ne_of_none sh.p2 nl
    have n4 : l4 ≠ l := ne_of_none sh.p4 nl
    have s2 := s1.put (m' := { m with parts := [m.trimmings, m.trimmings, m.trimmings] }) (dx := dx) (vc := vc) (vt := vt) (k3 := l) hvc1 hvt1 s1.p1 rfl ⟨_, upd_same, .cons hvt1 (.cons hvt1 (.cons hvt1 .nil))⟩ rfl s1.d12 n1 s1.d14 n2 (Ne.symm n4)
    obtain ⟨dx2, vc2, vt2, hp2, hvc2, hvt2⟩ := s2.ex
    refine ⟨_, rfl, _, _, _, _, rfl, hp2, T.cl, T.n_stage, nine, ?_⟩
    have s3 := s2.put (m' := m.ended) (dx := dx2) (vc := vc2) (vt := vt2) hvc2 hvt2 s2.p1 rfl s2.p3 rfl s2.d12 s2.d13 s2.d14 s2.d23 s2.d34
    refine q _ ⟨⟨l1, l2, l, l4, s3, fun x hx => ?_⟩, ((Kf.new nl).trans Kf.put).trans Kf.put⟩
    simp only [List.mem_cons, List.not_mem_nil, or_false] at hx ⊢
    rcases hx with rfl | rfl | rfl | rfl
    · exact .inl (.inl rfl)
    · exact .inl (.inr (.inl rfl))
    · exact .inr nl
    · exact .inl (.inr (.inr (.inr rfl)))
end
end Ck

set_option Elab.async false
set_option linter.all false
set_option maxRecDepth 100000
set_option maxHeartbeats 2000000
namespace Ck
open PySem PySem.Spec PyProof.Rows L2
open Kv204 (lowest plus minus le best)
theorem ok_po {m : M} (ok : Ok m) {i : Nat} (hi : i < 3) : m.po.getD i 0 ≤ 2 := by
  refine ok.pole _ ?_
  have := ok.po
  rw [List.getD_eq_getElem?_getD, List.getElem?_eq_getElem (by omega)]
  exact List.getElem_mem ..
theorem ok_pt {m : M} (ok : Ok m) {i : Nat} (hi : i < 3) : m.pt.getD i 0 ≤ 2 := by
  refine ok.ptle _ ?_
  have := ok.pt
  rw [List.getD_eq_getElem?_getD, List.getElem?_eq_getElem (by omega)]
  exact List.getElem_mem ..
theorem hold3 (m : M) : m.holder < 3 := by rcases holder_le m with z | z <;> rw [z] <;> decide
theorem filt_has {k j : Nat} (h : (ALL.filter (· != k)).contains j = true) : j ≤ 2 ∧ j ≠ k := by
  rw [List.contains_iff_mem, List.mem_filter] at h
  refine ⟨all2.mp h.1, fun z => ?_⟩
  have := h.2
  rw [z] at this
  simp at this
theorem choose_sums {m : M} {t : Kv204.Told} (ok : Ok m) (h0 : m.stage ≠ 0) (h1 : m.stage ≠ 1) (h4 : m.stage ≠ 4) (hm : m.maySay t = true) : (m.stage = 3 → t.which + m.po.getD 2 0 ≤ 3) ∧ (m.stage = 6 → t.which + m.pt.getD m.holder 0 ≤ 3) := by
  unfold M.maySay at hm
  rw [if_neg h0, if_neg h1, if_neg h4] at hm
  unfold M.choices at hm
  refine ⟨fun e => ?_, fun e => ?_⟩
  · rw [if_pos e] at hm
    have hp := ok_po ok (i := 2) (by decide)
    have ht := ok.tr
    split at hm
    · rename_i hne
      rw [List.contains_iff_mem, List.mem_singleton] at hm
      omega
    · rename_i hne
      have := filt_has hm
      omega
  · rw [if_neg (by omega), if_pos e] at hm
    have hp := ok_pt ok (hold3 m)
    have := filt_has hm
    omega
theorem filt_ne (k : Nat) : ∃ h t, ALL.filter (· != k) = h :: t := by
  by_cases e : k = 0
  · subst e
    exact ⟨1, [2], rfl⟩
  · refine ⟨0, [1, 2].filter (· != k), ?_⟩
    show List.filter (· != k) (0 :: [1, 2]) = _
    rw [List.filter_cons, if_pos]
    rw [bne_iff_ne]
    omega
theorem choices_ne (m : M) : ∃ h t, m.choices = h :: t := by
  unfold M.choices
  split
  · split
    · exact ⟨_, _, rfl⟩
    · exact filt_ne _
  · split
    · exact filt_ne _
    · exact ⟨_, _, rfl⟩
section
variable {P : Program} {w : World} {K : PySem.W.Frag} {mg : Str → Option Value} {base : Heap} {C : Addr}
/-! ### say -/
def spSay (K : PySem.W.Frag) (C : Addr) : Sp := fun vs H Q _ => ∃ (p l1 l2 l3 l4 : Addr) (m : M) (x y : V) (t : Kv204.Told), vs = [.ref p, .int (t.which : Nat), x, y] ∧ Sh K C H p m l1 l2 l3 l4 ∧ Ok m ∧ PlV K H x t.p ∧ PlV K H y t.q ∧ Small t ∧
  ∀ H' l, Po K C H p [l1, l2, l3, l4] (m.sayR t).1 ((m.sayR t).2.map V.int) H' l → Q (.ref l) H'
theorem sm_say : FnScope ["self", "which", "first", "second"] ["self", "which", "first", "second"] (defScope (md 9)) := ⟨rfl, rfl, rfl, by decide +kernel, rfl, by decide +kernel, by decide +kernel⟩
theorem mt_say (T : Txt K mg C) : Mt P w K mg base C "say" ["self", "which", "first", "second"] 5 (spSay K C) := by
  have G_m_may_say : Mt P w K mg base C "may_say" _ 4 (spMay K C) := mt_may_say T
  have G_m_trim : Mt P w K mg base C "trim" _ 1 (spTrim K C) := mt_trim T
  have G_m_choose : Mt P w K mg base C "choose" _ 3 (spChoose K C) := mt_choose T
  have G_m_end_without_trimmings : Mt P w K mg base C "end_without_trimmings" _ 1 (spEnd K C) := mt_end T
  have G_cut_in_three : Fn P w K mg base "cut_in_three" _ 1 (spThree K) := fn_cut_in_three T
  refine T.m_say.mt sm_say (fun vs H Q E h => ?_) (fun f cdv A outer s H vs Q E hr h => ?_)
  · obtain ⟨p, l1, l2, l3, l4, m, x, y, t, rfl, _⟩ := h
    rfl
  · obtain ⟨p, l1, l2, l3, l4, m, x, y, t, rfl, sh, ok, hx, hy, sm, k⟩ := h
    obtain ⟨t3, h3, r3⟩ : ∃ t3, PSs (cxOf CX0 P w K mg base ["self", "which", "first", "second"] "Sharing.say" (defScope (md 9)) f cdv A outer s H E).nox ((defBody (md 9)).drop 3) t3 ∧
        ∀ H1, Pv K C H p [l1, l2, l3, l4] (m.word t) H1 → (∀ H' l, Po K C H p [l1, l2, l3, l4] (m.said t) [V.int 0] H' l → Q (.ref l) H') →
          t3 { nx := fun _ H' => Q .non H', rt := Q } [some (.ref p), some (.int (t.which : Nat)), some x, some y] H1 := by
      refine ⟨_, (pss_cons (ps_fldaug (pv 0) pe_int in_add) (pss_cons (ps_if (PW.pt (pw_and (pt_cmpR op_eq (pe_fld (pv 0) rfl) (pe_ci T.c_PART) (nomark _)) (pw_and1 (pt_cmpR (op_eqD hr.units) (pe_ix ix_tup (pe_fld (pv 0) rfl) pe_int (fun _ _ => rfl)) (pe_ix ix_tup (pe_fld (pv 0) rfl) pe_int (fun _ _ => rfl)) (nomark _))))) (pss_one (ps_expr (pe_mt0 G_m_end_without_trimmings T.cl hr (pv 0)))) pss_nil) (pss_one (ps_ret (pe_lst (pa_cons (pe_ci T.c_DONE) pa_nil)))))), fun H1 pv q => ?_⟩
      obtain ⟨k1, k2, k3, k4, sh1, fr⟩ := pv.sh
      obtain ⟨dx1, vc1, vt1, hp1, hvc1, hvt1⟩ := sh1.ex
      refine ⟨_, rfl, _, _, _, _, _, rfl, hp1, T.cl, T.n_stage, lk_stage .., _, _, rfl, rfl, dx1, _, hp1, nine, ?_⟩
      have sh2 := sh1.put (m' := (m.word t).next) (dx := dx1) (vc := vc1) (vt := vt1) hvc1 hvt1 sh1.p1 rfl sh1.p3 rfl sh1.d12 sh1.d13 sh1.d14 sh1.d23 sh1.d34
      have kf2 := pv.kf.step fr (Kf.put (H := H1) (o := .ins C dx1 (flds vc1 (m.word t).next.cells (m.word t).next.stage k1 k2 (m.word t).next.trimmed vt1 k3 k4)))
      obtain ⟨dx2, vc2, vt2, hp2, hvc2, hvt2⟩ := sh2.ex
      have pv2 : Pv K C H p [l1, l2, l3, l4] (m.word t).next _ := ⟨⟨k1, k2, k3, k4, sh2, fr⟩, kf2⟩
      have fin : ¬ ((m.word t).next.stage = 4 ∧ (m.word t).next.trimmings.1 = (m.word t).next.trimmings.2) → m.said t = (m.word t).next := fun z => by
        unfold M.said M.fin
        rw [if_neg z]
      refine ⟨_, rfl, _, _, _, _, _, rfl, hp2, T.cl, T.n_stage, lk_stage .., rfl, _, dI _ 4, iteD (fun e4 => ?_) (fun e4 => ?_)⟩
      · obtain ⟨a, y1, y2, rfl, ha, q1, q2⟩ := hvt2
        refine ⟨_, rfl, _, _, _, _, _, rfl, hp2, T.cl, T.n_trimmings, lk_trimmings .., _, _, _, _, rfl, rfl, ha, rfl, _, rfl, _, _, _, _, _, rfl, hp2, T.cl, T.n_trimmings, lk_trimmings .., _, _, _, _, rfl, rfl, ha, rfl, _, _, q1.dp, q2.dp, rfl, rfl, _, rfl, ?_⟩
        rw [eqv_at]
        refine iteD (fun e => ?_) (fun e => ?_)
        · refine ⟨_, rfl, p, dx2, _, rfl, hp2, lk_no _ _ _ _ _ _ _ _ _ (by decide +kernel), p, k1, k2, k3, k4, _, rfl, sh2, fun H3 pv3 => ⟨one_len, fun l hl => q _ l ?_⟩⟩
          have es : m.said t = (m.word t).next.ended := by
            unfold M.said M.fin
            rw [if_pos ⟨e4, e⟩]
          rw [es]
          exact (Pv.step kf2 fr pv3).po hl
        · refine ⟨one_len, fun l hl => q _ l ?_⟩
          rw [fin (fun z => e z.2)]
          exact pv2.po hl
      · refine iteF ⟨one_len, fun l hl => q _ l ?_⟩
        rw [fin (fun z => e4 z.1)]
        exact pv2.po hl
    refine ⟨_, (pss_cons (ps_if (pt_cmpR op_eq (pe_fld (pv 0) rfl) (pe_ci T.c_OVER) (nomark _)) (pss_one (ps_ret (pe_lst (pa_cons (pe_ci T.c_NOT_NOW) pa_nil)))) pss_nil) (pss_cons (ps_if (pt_not (pt_val (pe_mt G_m_may_say T.cl hr (pv 0) (pa_cons (pv 1) (pa_cons (pv 2) (pa_cons (pv 3) pa_nil)))))) (pss_one (ps_ret (pe_lst (pa_cons (pe_ci T.c_NOT_ALLOWED) pa_nil)))) pss_nil) (pss_cons (ps_if (pt_cmpR op_eq (pe_fld (pv 0) rfl) (pe_ci T.c_CUT) (nomark _)) (pss_one (ps_fld (pv 0) (pe_fn G_cut_in_three hr (pa_cons (pe_fld (pv 0) rfl) (pa_cons (pv 2) (pa_cons (pv 3) pa_nil)))) rfl)) (pss_one (ps_if (pt_cmpR op_eq (pe_fld (pv 0) rfl) (pe_ci T.c_TRIM) (nomark _)) (pss_one (ps_expr (pe_mt G_m_trim T.cl hr (pv 0) (pa_cons (pv 1) (pa_cons (pv 2) pa_nil))))) (pss_one (ps_if (pt_cmpR op_eq (pe_fld (pv 0) rfl) (pe_ci T.c_PART) (nomark _)) (pss_one (ps_fld (pv 0) (pe_fn G_cut_in_three hr (pa_cons (pe_fld (pv 0) rfl) (pa_cons (pv 2) (pa_cons (pv 3) pa_nil)))) rfl)) (pss_one (ps_expr (pe_mt G_m_choose T.cl hr (pv 0) (pa_cons (pv 1) pa_nil))))))))) h3))), ?_⟩
    obtain ⟨dx, vc, vt, hp, hvc, hvt⟩ := sh.ex
    unfold M.sayR at k
    refine ⟨_, rfl, _, _, _, _, _, rfl, hp, T.cl, T.n_stage, lk_stage .., rfl, _, dI _ 7, iteD (fun e7 => ?_) (fun e7 => ?_)⟩
    · rw [if_pos e7] at k
      exact ⟨one_len, fun l hl => k _ l (.of_ret sh (same_new hl) hl upd_same)⟩
    rw [if_neg e7] at k
    refine ⟨_, rfl, p, dx, _, rfl, hp, lk_no _ _ _ _ _ _ _ _ _ (by decide +kernel), _, rfl, _, rfl, _, rfl, p, l1, l2, l3, l4, m, x, y, t, rfl, sh, ok, hx, hy, sm, fun H1 e1 => ⟨_, rfl, ?_⟩⟩
    cases hm : m.maySay t with
    | false =>
      rw [if_neg (by rw [hm]; decide)] at k
      exact iteT ⟨one_len, fun l hl => k _ l (.of_ret sh (e1.trans (same_new hl)) (e1.free hl) upd_same)⟩
    | true =>
      rw [if_pos hm] at k
      have sh1 := sh.mono e1
      have hp1 := e1 _ _ hp
      have hvc1 := hvc.mono e1
      have hvt1 := hvt.mono e1
      obtain ⟨x1, a1, b1⟩ := sh1.p1
      obtain ⟨x3, a3, b3⟩ := sh1.p3
      refine iteF ⟨_, rfl, _, _, _, _, _, rfl, hp1, T.cl, T.n_stage, lk_stage .., rfl, _, dI _ 0, iteD (fun e0 => ?_) (fun e0 => ?_)⟩
      · refine ⟨_, rfl, _, _, _, _, _, rfl, hp1, T.cl, T.n_cake, lk_cake .., _, rfl, _, rfl, _, _, _, m.cake, t.p, t.q, rfl, hvc1, hx.mono e1, hy.mono e1, fun H2 l xs e2 nl hl sts => ?_⟩
        have hp2 := e2 _ _ hp1
        refine ⟨_, rfl, _, _, _, _, rfl, hp2, T.cl, T.n_pieces, nine, r3 _ ?_ k⟩
        have n2 : l2 ≠ l := ne_of_none sh1.p2 nl
        have n3 : l3 ≠ l := ne_of_none a3 nl
        have n4 : l4 ≠ l := ne_of_none sh1.p4 nl
        have sh2 := sh1.mono e2
        have ew : m.word t = { m with pieces := three m.cake t.p t.q } := by unfold M.word; rw [if_pos e0]
        rw [ew]
        have sh3 := sh2.put (m' := { m with pieces := three m.cake t.p t.q }) (dx := dx) (vc := vc) (vt := vt) (k1 := l) (hvc1.mono e2) (hvt1.mono e2) ⟨xs, hl, sts⟩ rfl sh2.p3 rfl (Ne.symm n2) (Ne.symm n3) (Ne.symm n4) sh2.d23 sh2.d34
        refine ⟨⟨l, l2, l3, l4, sh3, fun z hz => ?_⟩, (Kf.same (e1.trans e2)).trans Kf.put⟩
        simp only [List.mem_cons, List.not_mem_nil, or_false] at hz ⊢
        rcases hz with rfl | rfl | rfl | rfl
        · exact .inr (e1.free nl)
        · exact .inl (.inr (.inl rfl))
        · exact .inl (.inr (.inr (.inl rfl)))
        · exact .inl (.inr (.inr (.inr rfl)))
      refine ⟨_, rfl, _, _, _, _, _, rfl, hp1, T.cl, T.n_stage, lk_stage .., rfl, _, dI _ 1, iteD (fun e1' => ?_) (fun e1' => ?_)⟩
      · have hk : t.which ≤ 2 := by
          unfold M.maySay at hm
          rw [if_neg e0, if_pos e1', Bool.and_eq_true, decide_eq_true_iff] at hm
          exact hm.1
        refine ⟨_, rfl, p, dx, _, rfl, hp1, lk_no _ _ _ _ _ _ _ _ _ (by decide +kernel), _, rfl, _, rfl, p, l1, l2, l3, l4, m, t.which, x, t.p, rfl, sh1, ok.pl e0, hk, hx.mono e1, fun H2 pv2 => r3 _ ?_ k⟩
        have ew : m.word t = m.trim t.which t.p := by unfold M.word; rw [if_neg e0, if_pos e1']
        rw [ew]
        exact Pv.step (Kf.same e1) (fun z hz => .inl hz) pv2
      refine ⟨_, rfl, _, _, _, _, _, rfl, hp1, T.cl, T.n_stage, lk_stage .., rfl, _, dI _ 4, iteD (fun e4 => ?_) (fun e4 => ?_)⟩
      · refine ⟨_, rfl, _, _, _, _, _, rfl, hp1, T.cl, T.n_trimmings, lk_trimmings .., _, rfl, _, rfl, _, _, _, m.trimmings, t.p, t.q, rfl, hvt1, hx.mono e1, hy.mono e1, fun H2 l xs e2 nl hl sts => ?_⟩
        have hp2 := e2 _ _ hp1
        refine ⟨_, rfl, _, _, _, _, rfl, hp2, T.cl, T.n_parts, nine, r3 _ ?_ k⟩
        have n1 : l1 ≠ l := ne_of_none a1 nl
        have n2 : l2 ≠ l := ne_of_none sh1.p2 nl
        have n4 : l4 ≠ l := ne_of_none sh1.p4 nl
        have sh2 := sh1.mono e2
        have ew : m.word t = { m with parts := three m.trimmings t.p t.q } := by unfold M.word; rw [if_neg e0, if_neg e1', if_pos e4]
        rw [ew]
        have sh3 := sh2.put (m' := { m with parts := three m.trimmings t.p t.q }) (dx := dx) (vc := vc) (vt := vt) (k3 := l) (hvc1.mono e2) (hvt1.mono e2) sh2.p1 rfl ⟨xs, hl, sts⟩ rfl sh2.d12 n1 sh2.d14 n2 (Ne.symm n4)
        refine ⟨⟨l1, l2, l, l4, sh3, fun z hz => ?_⟩, (Kf.same (e1.trans e2)).trans Kf.put⟩
        simp only [List.mem_cons, List.not_mem_nil, or_false] at hz ⊢
        rcases hz with rfl | rfl | rfl | rfl
        · exact .inl (.inl rfl)
        · exact .inl (.inr (.inl rfl))
        · exact .inr (e1.free nl)
        · exact .inl (.inr (.inr (.inr rfl)))
      have sums := choose_sums ok e0 e1' e4 hm
      have hst : m.stage = 2 ∨ m.stage = 3 ∨ m.stage = 5 ∨ m.stage = 6 := by
        have := ok.st
        omega
      refine ⟨_, rfl, p, dx, _, rfl, hp1, lk_no _ _ _ _ _ _ _ _ _ (by decide +kernel), _, rfl, p, l1, l2, l3, l4, m, t.which, rfl, sh1, ok, sums.1, sums.2, hst, fun H2 pv2 => r3 _ ?_ k⟩
      have ew : m.word t = m.choose t.which := by unfold M.word; rw [if_neg e0, if_neg e1', if_neg e4]
      rw [ew]
      exact Pv.step (Kf.same e1) (fun z hz => .inl hz) pv2
end
end Ck

set_option Elab.async false
set_option linter.all false
set_option maxRecDepth 100000
set_option maxHeartbeats 2000000
namespace Ck
open PySem PySem.Spec PyProof.Rows L2
open Kv204 (lowest plus minus le best)
theorem right_max {ws : List Nat} {x : Int} (h : x ∈ ws.map Int.ofNat) (hm : ∀ y ∈ ws.map Int.ofNat, y ≤ x) : Kv204.Worth.right ws = (decide (0 < x) && decide (x ≤ 1000)) := by
  obtain ⟨a, ha, rfl⟩ := List.mem_map.mp h
  have hm' : ∀ b ∈ ws, b ≤ a := fun b hb => by
    have := hm _ (List.mem_map.mpr ⟨b, hb, rfl⟩)
    exact Int.ofNat_le.mp this
  unfold Kv204.Worth.right
  rw [Bool.eq_iff_iff]
  simp only [Bool.and_eq_true, List.all_eq_true, List.any_eq_true, decide_eq_true_iff]
  constructor
  · rintro ⟨h1, b, hb, h2⟩
    have h3 : a ≤ 1000 := h1 a ha
    have h4 := hm' b hb
    exact ⟨by show (0 : Int) < (a : Int); omega, by show (a : Int) ≤ 1000; omega⟩
  · rintro ⟨h1, h2⟩
    have h1 : (0 : Int) < (a : Int) := h1
    have h2 : (a : Int) ≤ 1000 := h2
    refine ⟨fun b hb => ?_, a, ha, by omega⟩
    have := hm' b hb
    show b ≤ 1000
    omega
theorem nv_ints (ws : List Nat) : nv ws = (ws.map Int.ofNat).map V.int := by
  rw [List.map_map]
  rfl
theorem fits_ok {m : M} {ws : List Nat} (ok : Ok m) (h : m.fits ws = true) : OkW m.cells ws := by
  unfold M.fits at h
  rw [Bool.and_eq_true, decide_eq_true_iff] at h
  refine ⟨h.1, ok.n64, fun x hx => ?_⟩
  have := h.2
  unfold Kv204.Worth.right at this
  rw [Bool.and_eq_true, List.all_eq_true] at this
  exact of_decide_eq_true (this.1 x hx)
def flat (qs : List Kv204.At) : List V := qs.flatMap fun q => [V.int (q.1 : Nat), V.int (q.2 : Nat)]
theorem flat_len : ∀ qs : List Kv204.At, (flat qs).length = 2 * qs.length
  | [] => rfl
  | q :: qs => by
    have := flat_len qs
    show (V.int (q.1 : Nat) :: V.int (q.2 : Nat) :: flat qs).length = _
    rw [List.length_cons, List.length_cons, List.length_cons, this]
    omega
theorem flat_snoc (qs : List Kv204.At) (q : Kv204.At) : flat (qs ++ [q]) = flat qs ++ [V.int (q.1 : Nat), V.int (q.2 : Nat)] := by
  unfold flat
  rw [List.flatMap_append]
  rfl
section
variable {P : Program} {w : World} {K : PySem.W.Frag} {mg : Str → Option Value} {base : Heap} {C : Addr}
/-! ### fits -/
def spFits (K : PySem.W.Frag) (C : Addr) : Sp := fun vs H Q _ => ∃ (p l1 l2 l3 l4 : Addr) (m : M) (x : V) (ws : Kv204.Worth), vs = [.ref p, x] ∧ Sh K C H p m l1 l2 l3 l4 ∧ Ok m ∧ WoV K H x ws ∧ Q (.bl (m.fits ws)) H
theorem sm_fits : FnScope ["self", "worth"] ["self", "worth"] (defScope (md 13)) := ⟨rfl, rfl, rfl, by decide +kernel, rfl, by decide +kernel, by decide +kernel⟩
theorem mt_fits (T : Txt K mg C) : Mt P w K mg base C "fits" ["self", "worth"] 1 (spFits K C) := by
  refine T.m_fits.mt sm_fits (fun vs H Q E h => ?_) (fun f cdv A outer s H vs Q E hr h => ?_)
  · obtain ⟨p, l1, l2, l3, l4, m, x, ws, rfl, _⟩ := h
    rfl
  · obtain ⟨p, l1, l2, l3, l4, m, x, ws, rfl, sh, ok, ⟨a, rfl, ha⟩, k⟩ := h
    refine ⟨_, (pss_one (ps_ret (pe_and (pe_cmpR op_eq (pe_callB call_len_seq (by rfl) T.b_len bt_len (pa_cons (pv 1) pa_nil)) (pe_fld (pv 0) rfl) (nomark _)) (pe_one (pe_chain op_lt op_le pe_int (pe_callB (cr_max rfl) (by rfl) T.b_max bt_max (pa_cons (pv 1) pa_nil)) (pe_ci T.c_MOST_WORTH)))))), ?_⟩
    obtain ⟨dx, vc, vt, hp, _, _⟩ := sh.ex
    unfold M.fits at k
    refine ⟨_, rfl, a, _, rfl, .inl ha, _, rfl, _, _, _, _, _, rfl, hp, T.cl, T.n_cells, lk_cells .., rfl, decide (ws.length = m.cells), ?_, iteD (fun hl => ?_) (fun hl => ?_)⟩
    · rw [List.length_map]
      exact dI ws.length m.cells
    · rw [decide_eq_true hl, Bool.true_and] at k
      have ha' : SqL K H a ((ws.map Int.ofNat).map V.int) := by
        rw [← nv_ints]
        exact ha
      refine ⟨_, rfl, a, ws.map Int.ofNat, rfl, ha', ?_, fun x h1 h2 => ⟨_, _, rfl, rfl, _, rfl, ?_⟩⟩
      · rw [List.length_map, hl]
        exact ok.n1
      · rw [right_max h1 h2] at k
        by_cases h0 : (0 : Int) < x
        · rw [decide_eq_true h0, Bool.true_and] at k
          rw [decide_eq_true h0]
          exact iteT ⟨_, _, rfl, rfl, k⟩
        · rw [decide_eq_false h0, Bool.false_and] at k
          rw [decide_eq_false h0]
          exact iteF k
    · rw [decide_eq_false hl, Bool.false_and] at k
      exact k
/-! ### advise -/
def spAdv (K : PySem.W.Frag) (C : Addr) : Sp := fun vs H Q _ => ∃ (p l1 l2 l3 l4 : Addr) (m : M) (x : V) (ws : Kv204.Worth), vs = [.ref p, x] ∧ Sh K C H p m l1 l2 l3 l4 ∧ Ok m ∧ WoV K H x ws ∧ RetL H Q ((m.adviseR ws).map V.int)
theorem sm_advise : FnScope ["self", "worth", "places", "stretches", "which"] ["self", "worth"] (defScope (md 14)) := ⟨rfl, rfl, rfl, by decide +kernel, rfl, by decide +kernel, by decide +kernel⟩
theorem mt_advise (T : Txt K mg C) : Mt P w K mg base C "advise" ["self", "worth"] 7 (spAdv K C) := by
  have G_m_choices : Mt P w K mg base C "choices" _ 2 (spChoices K C) := mt_choices T
  have G_m_fits : Mt P w K mg base C "fits" _ 1 (spFits K C) := mt_fits T
  have G_advice : Fn P w K mg base "advice" _ 1 (spAdvice K) := fn_advice T
  have G_thirds : Fn P w K mg base "thirds" _ 5 (spThirds K) := fn_thirds T
  have G_worth_most : Fn P w K mg base "worth_most" _ 5 (spMost K) := fn_worth_most T
  have G_trim_advised : Fn P w K mg base "trim_advised" _ 6 (spTrimAd K) := fn_trim_advised T
  refine T.m_advise.mt sm_advise (fun vs H Q E h => ?_) (fun f cdv A outer s H vs Q E hr h => ?_)
  · obtain ⟨p, l1, l2, l3, l4, m, x, ws, rfl, _⟩ := h
    rfl
  · obtain ⟨p, l1, l2, l3, l4, m, x, ws, rfl, sh, ok, hx, k⟩ := h
    obtain ⟨dx, vc, vt, hp, hvc, hvt⟩ := sh.ex
    obtain ⟨t4, h4, r4⟩ : ∃ t4, PSs (cxOf CX0 P w K mg base ["self", "worth", "places", "stretches", "which"] "Sharing.advise" (defScope (md 14)) f cdv A outer s H E).nox ((defBody (md 14)).drop 4) t4 ∧
        ∀ (v : V) (ss : List Kv204.Stretch), SlV K H v ss → (∀ s ∈ ss, OkS m.cells s) → ss.length = 3 → OkW m.cells ws → (m.stage = 1 → ss = m.pieces) → m.stage ≠ 0 → m.stage ≠ 4 →
          (∀ j, (if m.stage < 4 then m.piece j else m.part j) = ss.getD j NOS) → RetL H Q ((toldI (m.advise ws)).map V.int) →
          t4 { nx := fun _ H' => Q .non H', rt := Q } [some (.ref p), some x, none, some v, none] H := by
      refine ⟨_, (pss_cons (ps_set (i := 4) sm_advise.nd rfl (Or.inl rfl) (pe_fn G_worth_most hr (pa_cons (pv 1) (pa_cons (pv 3) (pa_cons (pe_mt0 G_m_choices T.cl hr (pv 0)) pa_nil))))) (pss_cons (ps_if (pt_cmpR op_eq (pe_fld (pv 0) rfl) (pe_ci T.c_TRIM) (nomark _)) (pss_one (ps_ret (pe_fn G_advice hr (pa_cons (pv 4) (pa_cons (pe_fn G_trim_advised hr (pa_cons (pv 1) (pa_cons (pe_fld (pv 0) rfl) (pa_cons (pv 4) pa_nil)))) (pa_cons (pe_ct T.t_NO_PLACE) pa_nil)))))) pss_nil) (pss_one (ps_ret (pe_fn G_advice hr (pa_cons (pv 4) (pa_cons (pe_ct T.t_NO_PLACE) (pa_cons (pe_ct T.t_NO_PLACE) pa_nil)))))))), fun v ss hv hss hl3 hw h1 hs0 hs4 hpp q => ?_⟩
      obtain ⟨h, tl, ech⟩ := choices_ne m
      have hin : ∀ j ∈ h :: tl, j ≤ 2 := fun j hj => choices_le ok.tr (by rw [ech]; exact hj)
      refine ⟨_, rfl, _, rfl, _, rfl, p, dx, _, rfl, hp, lk_no _ _ _ _ _ _ _ _ _ (by decide +kernel), p, l1, l2, l3, l4, m, rfl, sh, ok, fun H1 l e1 nl hl => ?_⟩
      rw [ech] at hl
      refine ⟨_, _, m.cells, l, h, tl, ss, ws, rfl, hx.mono e1, hv.mono e1, SqL.of hl, hw, hss, fun j hj => by have := hin j hj; omega, fun H2 e2 => ?_⟩
      have e12 := e1.trans e2
      have hp2 := e12 _ _ hp
      have ek : best (fun j => ws.of_ (if m.stage < 4 then m.piece j else m.part j)) m.choices = best (fun j => ws.of_ (ss.getD j NOS)) (h :: tl) := by
        rw [ech]
        exact congrArg (fun g => best g (h :: tl)) (funext fun j => by rw [hpp])
      unfold M.advise at q
      rw [if_neg hs0, if_neg hs4] at q
      refine ⟨_, rfl, _, _, _, _, _, rfl, hp2, T.cl, T.n_stage, lk_stage .., rfl, _, dI _ 1, iteD (fun e => ?_) (fun e => ?_)⟩
      · have es := h1 e
        have hbm := best_mem (v := fun j => ws.of_ (ss.getD j NOS)) (h := h) (t := tl)
        have hb2 := hin _ hbm
        have eall : h :: tl = ALL := by
          rw [← ech]
          unfold M.choices
          rw [if_neg (by omega), if_neg (by omega)]
        have hmax : ∀ j, j ≤ 2 → Le (ws.of_ (ss.getD j NOS)) (ws.of_ (ss.getD (best (fun j => ws.of_ (ss.getD j NOS)) (h :: tl)) NOS)) := fun j hj => by
          refine best_max (v := fun j => ws.of_ (ss.getD j NOS)) (fun i hi => ?_) (by rw [eall]; exact all2.mpr hj)
          exact of_pos ws (hss _ (List.mem_of_getElem? (getD_some (by have := hin i hi; omega))))
        obtain ⟨x1, a1, b1⟩ := (sh.mono e12).p1
        refine ⟨_, rfl, _, rfl, _, rfl, _, _, _, _, _, rfl, hp2, T.cl, T.n_pieces, lk_pieces .., _, rfl, _, _, m.cells, ss, _, ws, rfl, hx.mono e12, ⟨l1, x1, rfl, SqL.of a1, (by rw [es]; exact b1)⟩, hl3, hb2, hw, hss, hmax, fun H3 r3 e3 p3 => ?_⟩
        refine fun aN hN => ⟨_, _, _, NO, _, rfl, p3, ⟨aN, rfl, hN _⟩, fun H4 l' e4 n4 hl4 => q H4 l' ((e12.trans e3).trans e4) ((e12.trans e3).free n4) ?_⟩
        rw [hl4]
        simp only [ek]
        rw [if_pos e]
        subst es
        rfl
      · refine ⟨_, rfl, fun aN hN bN hM => ⟨_, _, NO, NO, _, rfl, ⟨aN, rfl, hN _⟩, ⟨bN, rfl, hM _⟩, fun H4 l' e4 n4 hl4 => q H4 l' (e12.trans e4) (e12.free n4) ?_⟩⟩
        rw [hl4]
        simp only [ek]
        rw [if_neg e]
        rfl
    refine ⟨_, (pss_cons (ps_if (pt_cmpR op_eq (pe_fld (pv 0) rfl) (pe_ci T.c_OVER) (nomark _)) (pss_one (ps_ret (pe_lst (pa_cons (pe_ci T.c_NOT_NOW) pa_nil)))) pss_nil) (pss_cons (ps_if (pt_not (pt_val (pe_mt G_m_fits T.cl hr (pv 0) (pa_cons (pv 1) pa_nil)))) (pss_one (ps_ret (pe_lst (pa_cons (pe_ci T.c_NOT_ALLOWED) pa_nil)))) pss_nil) (pss_cons (ps_if (PW.pt (pw_or (pt_cmpR op_eq (pe_fld (pv 0) rfl) (pe_ci T.c_CUT) (nomark _)) (pw_or1 (pt_cmpR op_eq (pe_fld (pv 0) rfl) (pe_ci T.c_PART) (nomark _))))) (pss_cons (ps_set (i := 2) sm_advise.nd rfl (Or.inl rfl) (pe_fn G_thirds hr (pa_cons (pv 1) (pa_cons (pe_ifExp (pt_cmpR op_eq (pe_fld (pv 0) rfl) (pe_ci T.c_CUT) (nomark _)) (pe_fld (pv 0) rfl) (pe_fld (pv 0) rfl)) pa_nil)))) (pss_one (ps_ret (pe_fn G_advice hr (pa_cons pe_int (pa_cons (pe_ix ix_tup (pv 2) pe_int (fun _ _ => rfl)) (pa_cons (pe_ix ix_tup (pv 2) pe_int (fun _ _ => rfl)) pa_nil))))))) pss_nil) (pss_cons (ps_set (i := 3) sm_advise.nd rfl (Or.inl rfl) (pe_ifExp (pt_cmpR op_lt (pe_fld (pv 0) rfl) (pe_ci T.c_PART) (nomark _)) (pe_fld (pv 0) rfl) (pe_fld (pv 0) rfl))) h4)))), ?_⟩
    unfold M.adviseR at k
    refine ⟨_, rfl, _, _, _, _, _, rfl, hp, T.cl, T.n_stage, lk_stage .., rfl, _, dI _ 7, iteD (fun e7 => ?_) (fun e7 => ?_)⟩
    · rw [if_pos e7] at k
      exact ⟨one_len, fun l hl => k _ l (same_new hl) hl upd_same⟩
    rw [if_neg e7] at k
    refine ⟨_, rfl, p, dx, _, rfl, hp, lk_no _ _ _ _ _ _ _ _ _ (by decide +kernel), _, rfl, p, l1, l2, l3, l4, m, x, ws, rfl, sh, ok, hx, _, rfl, ?_⟩
    cases hf : m.fits ws with
    | false =>
      rw [if_neg (by rw [hf]; decide)] at k
      exact iteT ⟨one_len, fun l hl => k _ l (same_new hl) hl upd_same⟩
    | true =>
      rw [if_pos hf] at k
      have hw := fits_ok ok hf
      refine iteF ⟨_, rfl, _, _, _, _, _, rfl, hp, T.cl, T.n_stage, lk_stage .., rfl, _, dI _ 0, iteD (fun e0 => ?_) (fun e0 => ?_)⟩
      · refine iteT ⟨_, rfl, _, rfl, _, _, _, _, _, rfl, hp, T.cl, T.n_stage, lk_stage .., rfl, _, dI _ 0, iteD (fun _ => ⟨_, rfl, _, _, _, _, _, rfl, hp, T.cl, T.n_cake, lk_cake .., _, _, m.cells, m.cake, ws, rfl, hx, hvc, hw, okS_cake m, fun H1 v e1 stv => ?_⟩) (fun z => absurd e0 z)⟩
        obtain ⟨a, y1, y2, rfl, ha, q1, q2⟩ := stv
        refine ⟨_, rfl, _, _, _, _, rfl, rfl, ha, rfl, _, rfl, _, _, _, _, rfl, rfl, ha, rfl, y1, y2, (ws.thirds m.cake).1, (ws.thirds m.cake).2, 0, rfl, q1, q2, fun H2 l e2 n hl => k H2 l (e1.trans e2) (e1.free n) ?_⟩
        rw [hl]
        unfold M.advise
        rw [if_pos e0]
        rfl
      refine ⟨_, rfl, _, _, _, _, _, rfl, hp, T.cl, T.n_stage, lk_stage .., rfl, _, dI _ 4, iteD (fun e4 => ?_) (fun e4 => ?_)⟩
      · refine ⟨_, rfl, _, rfl, _, _, _, _, _, rfl, hp, T.cl, T.n_stage, lk_stage .., rfl, _, dI _ 0, iteD (fun z => absurd z e0) (fun _ => ⟨_, rfl, _, _, _, _, _, rfl, hp, T.cl, T.n_trimmings, lk_trimmings .., _, _, m.cells, m.trimmings, ws, rfl, hx, hvt, hw, ok.trm, fun H1 v e1 stv => ?_⟩)⟩
        obtain ⟨a, y1, y2, rfl, ha, q1, q2⟩ := stv
        refine ⟨_, rfl, _, _, _, _, rfl, rfl, ha, rfl, _, rfl, _, _, _, _, rfl, rfl, ha, rfl, y1, y2, (ws.thirds m.trimmings).1, (ws.thirds m.trimmings).2, 0, rfl, q1, q2, fun H2 l e2 n hl => k H2 l (e1.trans e2) (e1.free n) ?_⟩
        rw [hl]
        unfold M.advise
        rw [if_neg e0, if_pos e4]
        rfl
      obtain ⟨x1, a1, b1⟩ := sh.p1
      obtain ⟨x3, a3, b3⟩ := sh.p3
      refine ⟨_, rfl, _, _, _, _, _, rfl, hp, T.cl, T.n_stage, lk_stage .., _, _, rfl, rfl, _, rfl, iteD (fun lt => ?_) (fun lt => ?_)⟩
      · have lt : (m.stage : Int) < 4 := lt
        exact ⟨_, rfl, _, _, _, _, _, rfl, hp, T.cl, T.n_pieces, lk_pieces .., r4 _ m.pieces ⟨l1, x1, rfl, SqL.of a1, b1⟩ ok.pcs (ok.pl e0) hw (fun _ => rfl) e0 e4 (fun j => by rw [if_pos (by omega)]; rfl) k⟩
      · have lt : ¬ (m.stage : Int) < 4 := lt
        exact ⟨_, rfl, _, _, _, _, _, rfl, hp, T.cl, T.n_parts, lk_parts .., r4 _ m.parts ⟨l3, x3, rfl, SqL.of a3, b3⟩ ok.prt (ok.prl (by omega)) hw (fun z => absurd z (by omega)) e0 e4 (fun j => by rw [if_neg (by omega)]; rfl) k⟩
/-! ### share -/
def spShare (K : PySem.W.Frag) (C : Addr) : Sp := fun vs H Q _ => ∃ (p l1 l2 l3 l4 : Addr) (m : M) (i : Nat), vs = [.ref p, .int i] ∧ Sh K C H p m l1 l2 l3 l4 ∧ Ok m ∧ RetL H Q ((m.shareR i).map V.int)
theorem four_len {a b c d : V} : ([a, b, c, d] : List V).length ≤ sizeLine := by show 4 ≤ sizeLine; decide
theorem sm_share : FnScope ["self", "who", "piece", "part", "told", "place"] ["self", "who"] (defScope (md 15)) := ⟨rfl, rfl, rfl, by decide +kernel, rfl, by decide +kernel, by decide +kernel⟩
theorem mt_share (T : Txt K mg C) : Mt P w K mg base C "share" ["self", "who"] 1 (spShare K C) := by
  refine T.m_share.mt sm_share (fun vs H Q E h => ?_) (fun f cdv A outer s H vs Q E hr h => ?_)
  · obtain ⟨p, l1, l2, l3, l4, m, i, rfl, _⟩ := h
    rfl
  · obtain ⟨p, l1, l2, l3, l4, m, i, rfl, sh, ok, k⟩ := h
    refine ⟨_, (pss_cons (ps_if (pt_cmpR op_notIn_seq (pv 1) (pe_ct T.t_ALL_THREE) (by with_unfolding_all rfl)) (pss_one (ps_ret (pe_lst (pa_cons (pe_ci T.c_NOT_ALLOWED) pa_nil)))) pss_nil) (pss_cons (ps_if (pt_cmpR op_ne (pe_fld (pv 0) rfl) (pe_ci T.c_OVER) (nomark _)) (pss_one (ps_ret (pe_lst (pa_cons (pe_ci T.c_NOT_NOW) pa_nil)))) pss_nil) (pss_cons (ps_set (i := 2) sm_share.nd rfl (Or.inl rfl) (pe_ix ix_list (pe_fld (pv 0) rfl) (pe_ix ix_list (pe_fld (pv 0) rfl) (pv 1) (fun _ _ => rfl)) (fun _ _ => rfl))) (pss_cons (ps_set (i := 3) sm_share.nd rfl (Or.inl rfl) (pe_ix ix_list (pe_fld (pv 0) rfl) (pe_ix ix_list (pe_fld (pv 0) rfl) (pv 1) (fun _ _ => rfl)) (fun _ _ => rfl))) (pss_cons (ps_set (i := 4) sm_share.nd rfl (Or.inl rfl) (pe_lst (pa_cons (pe_ci T.c_DONE) pa_nil))) (pss_cons (ps_for PassesOwn.never rfl (pi_tup (pe_tup (pa_cons (pe_ix ix_tup (pv 2) pe_int (fun _ _ => rfl)) (pa_cons (pe_ix ix_tup (pv 2) pe_int (fun _ _ => rfl)) (pa_cons (pe_ix ix_tup (pv 3) pe_int (fun _ _ => rfl)) (pa_cons (pe_ix ix_tup (pv 3) pe_int (fun _ _ => rfl)) pa_nil)))))) (pg_name (i := 5) sm_share.nd rfl (Or.inl rfl)) (pss_one (ps_expr (pe_bm PySem.F.plainAttrs_list PySem.F.slot_list_extend PySem.F.type_list_extend mt_extT (pv 4) (pa_cons (pv 5) pa_nil))))) (pss_one (ps_ret (pv 4))))))))), ?_⟩
    obtain ⟨dx, vc, vt, hp, _, _⟩ := sh.ex
    unfold M.shareR at k
    refine ⟨_, rfl, fun aA hA => ⟨aA, _, rfl, .inr (hA _), rfl, rfl, !decide (i ≤ 2), congrArg (fun z => V.bl (!z)) ((inV_nat i ALL).trans (all_has _)), iteND (fun hi => ?_) (fun hi => ?_)⟩⟩
    · rw [if_neg (fun z => z hi)] at k
      refine ⟨_, rfl, _, _, _, _, _, rfl, hp, T.cl, T.n_stage, lk_stage .., rfl, _, dN _ 7, iteND (fun e7 => ?_) (fun e7 => ?_)⟩
      · rw [if_neg (fun z => z e7)] at k
        have hi3 : i < 3 := by omega
        have hpl := ok.pl (by omega)
        have hql := ok.prl (by omega)
        obtain ⟨x1, a1, b1⟩ := sh.p1
        obtain ⟨x3, a3, b3⟩ := sh.p3
        obtain ⟨v1, hv1, c1, y1, y2, rfl, hc1, q1, q2⟩ := b1.get (piece_get hpl (ok_po ok hi3))
        obtain ⟨v3, hv3, c3, y3, y4, rfl, hc3, q3, q4⟩ := b3.get (part_get hql (ok_pt ok hi3))
        refine ⟨_, rfl, _, _, _, _, _, rfl, hp, T.cl, T.n_pieces, lk_pieces .., _, rfl, _, _, _, _, _, rfl, hp, T.cl, T.n_piece_of, lk_piece_of .., _, rfl, _, _, _, _, rfl, rfl, SqL.of sh.p2, atI_nat (of3 ok.po hi3), _, _, _, _, rfl, rfl, SqL.of a1, atI_nat hv1, ?_⟩
        refine ⟨_, rfl, _, _, _, _, _, rfl, hp, T.cl, T.n_parts, lk_parts .., _, rfl, _, _, _, _, _, rfl, hp, T.cl, T.n_part_of, lk_part_of .., _, rfl, _, _, _, _, rfl, rfl, SqL.of sh.p4, atI_nat (of3 ok.pt hi3), _, _, _, _, rfl, rfl, SqL.of a3, atI_nat hv3, ?_⟩
        refine ⟨one_len, fun l nl => ?_⟩
        have e1 := same_new (o := .lst [.int 0]) nl
        have g1 := Same.tup e1 hc1
        have g3 := Same.tup e1 hc3
        refine ⟨_, rfl, _, _, _, _, rfl, rfl, g1, rfl, _, rfl, _, _, _, _, rfl, rfl, g1, rfl, _, rfl, _, _, _, _, rfl, rfl, g3, rfl, _, rfl, _, _, _, _, rfl, rfl, g3, rfl, four_len, fun t nt => ?_⟩
        have e2 := e1.trans (same_new (o := .tup [y1, y2, y3, y4]) nt)
        have hl2 := hpA (o := .tup [y1, y2, y3, y4]) nt (upd_same (H := H) (a := l) (o := .lst [.int 0]))
        have ntl : t ≠ l := fun z => by rw [z, upd_same] at nt; cases nt
        refine ⟨t, rfl, ⟨_, SqT.of upd_same⟩, for_tup (K := K) (a := t) (xs := [y1, y2, y3, y4]) (fun j σ H' => Same H H' ∧ H' t = some (.tup [y1, y2, y3, y4]) ∧ H' l = some (.lst (.int 0 :: flat ([(m.share i).1.1, (m.share i).1.2, (m.share i).2.1, (m.share i).2.2].take j))) ∧ ∃ r, σ = [some (.ref p), some (.int i), some (.ref c1), some (.ref c3), some (.ref l), r])
          ⟨e2, upd_same, hl2, none, rfl⟩ (fun _ _ _ _ ⟨_, z, _⟩ => SqT.of z) ?_ ?_⟩
        · rintro j xv σ H' hj ⟨e3, ht3, hl3, r, rfl⟩
          obtain ⟨q, hq, pq⟩ : ∃ q, [(m.share i).1.1, (m.share i).1.2, (m.share i).2.1, (m.share i).2.2][j]? = some q ∧ PlV K H xv q := by
            match j, hj with
            | 0, hj => exact ⟨_, rfl, by cases hj; exact q1⟩
            | 1, hj => exact ⟨_, rfl, by cases hj; exact q2⟩
            | 2, hj => exact ⟨_, rfl, by cases hj; exact q3⟩
            | 3, hj => exact ⟨_, rfl, by cases hj; exact q4⟩
            | j + 4, hj => simp at hj
          obtain ⟨b, rfl, hb⟩ := pq.mono e3
          refine ⟨_, rfl, .inl ⟨rfl, _, SqL.of hl3⟩, _, rfl, l, b, _, _, rfl, rfl, hl3, hb, ?_, same_upd nl e3, ?_, ?_, _, rfl⟩
          · rw [List.length_cons, flat_len, List.length_take]
            have : min j [(m.share i).1.1, (m.share i).1.2, (m.share i).2.1, (m.share i).2.2].length ≤ 4 := Nat.min_le_right _ _
            show 2 * _ + 1 + 2 ≤ _
            have h2 : 11 ≤ sizeLine := by decide
            omega
          · rw [upd_ne ntl]
            exact ht3
          · rw [upd_same, take_snoc hq, flat_snoc]
            rfl
        · rintro σ H' ⟨e3, ht3, hl3, r, rfl⟩
          exact ⟨_, rfl, k H' l e3 nl hl3⟩
      · rw [if_pos e7] at k
        exact ⟨one_len, fun l hl => k _ l (same_new hl) hl upd_same⟩
    · rw [if_pos hi] at k
      exact ⟨one_len, fun l hl => k _ l (same_new hl) hl upd_same⟩
end
end Ck

set_option Elab.async false
set_option linter.all false
set_option maxRecDepth 100000
set_option maxHeartbeats 2000000
namespace Ck
open PySem PySem.Spec PyProof.Rows L2
theorem dZ (a b : Int) : V.bl (decide (V.int a = V.int b)) = V.bl (decide (a = b)) := congrArg V.bl (decide_eq_decide.mpr ⟨fun z => by injection z, fun z => by rw [z]⟩)
theorem get_at {L pre x rest : List Int} {j : Nat} {z : Int} (e : L = pre ++ (x ++ rest)) (h : x[j]? = some z) : (L.map V.int)[pre.length + j]? = some (V.int z) := by
  have hj := (List.getElem?_eq_some_iff.mp h).1
  subst e
  rw [List.getElem?_map, List.getElem?_append_right (by omega), show pre.length + j - pre.length = j by omega, List.getElem?_append_left hj, h]
  rfl
theorem cut_at {L pre x rest : List Int} (e : L = pre ++ (x ++ rest)) : cutV (L.map V.int) (some (pre.length : Int)) (some ((pre.length : Int) + (x.length : Int))) = x.map V.int := by
  have e2 : ((pre.length : Int) + (x.length : Int)) = ((pre.length + x.length : Nat) : Int) := rfl
  unfold cutV
  rw [e2, HT.sIx_nat, HT.sIx_nat]
  subst e
  have hl : ((pre ++ (x ++ rest)).map V.int).length = pre.length + (x.length + rest.length) := by simp
  rw [hl, Nat.min_eq_left (by omega), Nat.min_eq_left (by omega), List.map_append, List.map_append]
  rw [show pre.length = (pre.map V.int).length by simp, List.drop_left, show (pre.map V.int).length + x.length - (pre.map V.int).length = (x.map V.int).length by simp, List.take_left]
theorem cut_from2 (a b : V) (t : List V) : cutV (a :: b :: t) (some 2) none = t := by
  unfold cutV
  have e : HT.sIx (a :: b :: t).length 0 (some (2 : Int)) = 2 := by
    rw [show (2 : Int) = ((2 : Nat) : Int) from rfl, HT.sIx_nat]
    show min 2 (t.length + 1 + 1) = 2
    omega
  rw [e, HT.sIx_none]
  show t.take _ = t
  exact List.take_of_length_le (by show t.length ≤ t.length + 1 + 1 - 2; omega)
theorem told_len {x : List Int} {c : List (List Int)} {k : Kv204.Call} (h : Told1 x c k) : 0 < x.length := by
  cases h <;> exact Nat.succ_pos _
theorem does_len {m m' : M} {x r : List Int} (h : Does m x m' r) : r.length ≤ 9 := by
  cases h with
  | start n => unfold M.startR; split <;> exact Nat.le_of_ble_eq_true rfl
  | turn => exact Nat.le_of_ble_eq_true rfl
  | say => unfold M.sayR; split; (exact Nat.le_of_ble_eq_true rfl); split <;> exact Nat.le_of_ble_eq_true rfl
  | advise w hw => unfold M.adviseR; split; (exact Nat.le_of_ble_eq_true rfl); split <;> exact Nat.le_of_ble_eq_true rfl
  | share i => unfold M.shareR; split; (exact Nat.le_of_ble_eq_true rfl); split <;> exact Nat.le_of_ble_eq_true rfl
section
variable {P : Program} {w : World} {K : PySem.W.Frag} {mg : Str → Option Value} {base : Heap} {C : Addr}
/-! ### call_length -/
def spLen (K : PySem.W.Frag) : Sp := fun vs H Q _ => ∃ (a : Addr) (L pre x rest : List Int) (c : List (List Int)) (k : Kv204.Call), vs = [.ref a, .int (pre.length : Nat)] ∧ SqL K H a (L.map V.int) ∧ L = pre ++ (x ++ rest) ∧ Told1 x c k ∧ Q (.int (x.length : Nat)) H
theorem sc_call_length : FnScope ["calls", "at", "number"] ["calls", "at"] (defScope (top 43)) := ⟨rfl, rfl, rfl, by decide +kernel, rfl, by decide +kernel, by decide +kernel⟩
theorem fn_call_length (T : Txt K mg C) : Fn P w K mg base "call_length" ["calls", "at"] 1 (spLen K) := by
  refine T.d_call_length.fn sc_call_length (fun vs H Q E h => ?_) (fun f cdv A outer s H vs Q E hr h => ?_)
  · obtain ⟨a, L, pre, x, rest, c, k, rfl, _⟩ := h
    rfl
  · obtain ⟨a, L, pre, x, rest, c, k, rfl, ha, eL, tl, q⟩ := h
    refine ⟨_, (pss_cons (ps_set (i := 2) sc_call_length.nd rfl (Or.inl rfl) (pe_ix ix_list (pv 0) (pv 1) (fun _ _ => rfl))) (pss_cons (ps_if (pt_cmpR op_eq (pv 2) (pe_ci T.c_ADVISE) (nomark _)) (pss_one (ps_ret (pe_op op_add (pe_ix ix_tup (pe_ct T.t_CALL_LENGTHS) (pe_ci T.c_ADVISE) (fun _ _ => rfl)) (pe_ix ix_list (pv 0) (pe_op op_add (pv 1) pe_int) (fun _ _ => rfl))))) pss_nil) (pss_one (ps_ret (pe_ix ix_tup (pe_ct T.t_CALL_LENGTHS) (pv 2) (fun _ _ => rfl)))))), ?_⟩
    have go : ∀ (z : Int), x[0]? = some z → atI (L.map V.int) (pre.length : Int) = some (V.int z) := fun z hz => atI_nat (j := pre.length) (get_at (j := 0) eL hz)
    cases tl with
    | start n =>
      refine ⟨_, rfl, _, rfl, _, _, _, _, rfl, rfl, ha, go 0 rfl, ?_⟩
      exact ⟨_, rfl, rfl, _, dZ 0 3, iteD (fun e => absurd e (by decide)) (fun _ => fun aL hL => ⟨_, rfl, _, _, _, _, rfl, rfl, hL _, rfl, q⟩)⟩
    | turn =>
      refine ⟨_, rfl, _, rfl, _, _, _, _, rfl, rfl, ha, go 1 rfl, ?_⟩
      exact ⟨_, rfl, rfl, _, dZ 1 3, iteD (fun e => absurd e (by decide)) (fun _ => fun aL hL => ⟨_, rfl, _, _, _, _, rfl, rfl, hL _, rfl, q⟩)⟩
    | say k a' b' c' d' _ _ _ _ =>
      refine ⟨_, rfl, _, rfl, _, _, _, _, rfl, rfl, ha, go 2 rfl, ?_⟩
      exact ⟨_, rfl, rfl, _, dZ 2 3, iteD (fun e => absurd e (by decide)) (fun _ => fun aL hL => ⟨_, rfl, _, _, _, _, rfl, rfl, hL _, rfl, q⟩)⟩
    | share i =>
      refine ⟨_, rfl, _, rfl, _, _, _, _, rfl, rfl, ha, go 4 rfl, ?_⟩
      exact ⟨_, rfl, rfl, _, dZ 4 3, iteD (fun e => absurd e (by decide)) (fun _ => fun aL hL => ⟨_, rfl, _, _, _, _, rfl, rfl, hL _, rfl, q⟩)⟩
    | advise ws hw =>
      refine ⟨_, rfl, _, rfl, _, _, _, _, rfl, rfl, ha, go 3 rfl, ?_⟩
      have e2 : (2 + (ws.length : Int)) = (((3 : Int) :: (ws.length : Int) :: ws.map Int.ofNat).length : Nat) := by
        rw [List.length_cons, List.length_cons, List.length_map]
        omega
      rw [← e2] at q
      exact ⟨_, rfl, rfl, _, dZ 3 3, iteD (fun _ => fun aL hL => ⟨_, _, _, _, rfl, rfl, hL _, rfl, _, rfl, _, rfl, _, _, rfl, rfl, _, _, _, _, rfl, rfl, ha, atI_nat (j := pre.length + 1) (get_at (j := 1) eL rfl), _, _, rfl, rfl, q⟩) (fun e => absurd rfl e)⟩
/-! ### answer -/
def spAnswer (K : PySem.W.Frag) (C : Addr) : Sp := fun vs H Q _ => ∃ (p l1 l2 l3 l4 a : Addr) (m m' : M) (x r : List Int), vs = [.ref p, .ref a] ∧ Sh K C H p m l1 l2 l3 l4 ∧ Ok m ∧ SqL K H a (x.map V.int) ∧ Does m x m' r ∧
  ∀ H' l, Po K C H p [l1, l2, l3, l4] m' (r.map V.int) H' l → Q (.ref l) H'
theorem sc_answer : FnScope ["sharing", "call"] ["sharing", "call"] (defScope (top 44)) := ⟨rfl, rfl, rfl, by decide +kernel, rfl, by decide +kernel, by decide +kernel⟩
theorem fn_answer (T : Txt K mg C) : Fn P w K mg base "answer" ["sharing", "call"] 8 (spAnswer K C) := by
  have G_m_start : Mt P w K mg base C "start" _ 2 (spStart K C) := mt_start T
  have G_m_turn : Mt P w K mg base C "turn" _ 4 (spTurn K C) := mt_turn T
  have G_m_say : Mt P w K mg base C "say" _ 5 (spSay K C) := mt_say T
  have G_m_advise : Mt P w K mg base C "advise" _ 7 (spAdv K C) := mt_advise T
  have G_m_share : Mt P w K mg base C "share" _ 1 (spShare K C) := mt_share T
  refine T.d_answer.fn sc_answer (fun vs H Q E h => ?_) (fun f cdv A outer s H vs Q E hr h => ?_)
  · obtain ⟨p, l1, l2, l3, l4, a, m, m', x, r, rfl, _⟩ := h
    rfl
  · obtain ⟨p, l1, l2, l3, l4, a, m, m', x, r, rfl, sh, ok, ha, dd, q⟩ := h
    refine ⟨_, (pss_cons (ps_if (pt_cmpR op_eq (pe_ix ix_list (pv 1) pe_int (fun _ _ => rfl)) (pe_ci T.c_START) (nomark _)) (pss_one (ps_ret (pe_mt G_m_start T.cl hr (pv 0) (pa_cons (pe_ix ix_list (pv 1) pe_int (fun _ _ => rfl)) pa_nil)))) pss_nil) (pss_cons (ps_if (pt_cmpR op_eq (pe_ix ix_list (pv 1) pe_int (fun _ _ => rfl)) (pe_ci T.c_TURN) (nomark _)) (pss_one (ps_ret (pe_mt0 G_m_turn T.cl hr (pv 0)))) pss_nil) (pss_cons (ps_if (pt_cmpR op_eq (pe_ix ix_list (pv 1) pe_int (fun _ _ => rfl)) (pe_ci T.c_SAY) (nomark _)) (pss_one (ps_ret (pe_mt G_m_say T.cl hr (pv 0) (pa_cons (pe_ix ix_list (pv 1) pe_int (fun _ _ => rfl)) (pa_cons (pe_tup (pa_cons (pe_ix ix_list (pv 1) pe_int (fun _ _ => rfl)) (pa_cons (pe_ix ix_list (pv 1) pe_int (fun _ _ => rfl)) pa_nil))) (pa_cons (pe_tup (pa_cons (pe_ix ix_list (pv 1) pe_int (fun _ _ => rfl)) (pa_cons (pe_ix ix_list (pv 1) pe_int (fun _ _ => rfl)) pa_nil))) pa_nil)))))) pss_nil) (pss_cons (ps_if (pt_cmpR op_eq (pe_ix ix_list (pv 1) pe_int (fun _ _ => rfl)) (pe_ci T.c_ADVISE) (nomark _)) (pss_one (ps_ret (pe_mt G_m_advise T.cl hr (pv 0) (pa_cons (pe_slice sl_list (pv 1) (po_some pe_int) po_none) pa_nil)))) pss_nil) (pss_one (ps_ret (pe_mt G_m_share T.cl hr (pv 0) (pa_cons (pe_ix ix_list (pv 1) pe_int (fun _ _ => rfl)) pa_nil)))))))), ?_⟩
    obtain ⟨dx, vc, vt, hp, _, _⟩ := sh.ex
    cases dd with
    | start n =>
      refine ⟨_, rfl, _, _, _, _, rfl, rfl, ha, atI_nat (j := 0) rfl, rfl, _, dZ 0 0, iteD (fun _ => ?_) (fun e => absurd rfl e)⟩
      exact ⟨_, rfl, p, dx, _, rfl, hp, lk_no _ _ _ _ _ _ _ _ _ (by decide +kernel), _, rfl, _, _, _, _, rfl, rfl, ha, atI_nat (j := 1) rfl, p, l1, l2, l3, l4, m, n, rfl, sh, q⟩
    | turn =>
      refine ⟨_, rfl, _, _, _, _, rfl, rfl, ha, atI_nat (j := 0) rfl, rfl, _, dZ 1 0, iteD (fun e => absurd e (by decide)) (fun _ => ?_)⟩
      refine ⟨_, rfl, _, _, _, _, rfl, rfl, ha, atI_nat (j := 0) rfl, rfl, _, dZ 1 1, iteD (fun _ => ?_) (fun e => absurd rfl e)⟩
      exact ⟨_, rfl, p, dx, _, rfl, hp, lk_no _ _ _ _ _ _ _ _ _ (by decide +kernel), p, l1, l2, l3, l4, m, rfl, sh, ok.po, fun H' l e n hl => q H' l (.of_ret sh e n hl)⟩
    | say k a1 b1 c1 d1 h1 h2 h3 h4 =>
      refine ⟨_, rfl, _, _, _, _, rfl, rfl, ha, atI_nat (j := 0) rfl, rfl, _, dZ 2 0, iteD (fun e => absurd e (by decide)) (fun _ => ?_)⟩
      refine ⟨_, rfl, _, _, _, _, rfl, rfl, ha, atI_nat (j := 0) rfl, rfl, _, dZ 2 1, iteD (fun e => absurd e (by decide)) (fun _ => ?_)⟩
      refine ⟨_, rfl, _, _, _, _, rfl, rfl, ha, atI_nat (j := 0) rfl, rfl, _, dZ 2 2, iteD (fun _ => ?_) (fun e => absurd rfl e)⟩
      refine ⟨_, rfl, p, dx, _, rfl, hp, lk_no _ _ _ _ _ _ _ _ _ (by decide +kernel), _, rfl, _, _, _, _, rfl, rfl, ha, atI_nat (j := 1) rfl, _, rfl, _, _, _, _, rfl, rfl, ha, atI_nat (j := 2) rfl, _, rfl, _, _, _, _, rfl, rfl, ha, atI_nat (j := 3) rfl, two_len, fun t1 n1 => ?_⟩
      have e1 := same_new (o := .tup [.int (a1 : Int), .int (b1 : Int)]) n1
      have ha1 := e1.seq ha
      refine ⟨_, rfl, _, _, _, _, rfl, rfl, ha1, atI_nat (j := 4) rfl, _, rfl, _, _, _, _, rfl, rfl, ha1, atI_nat (j := 5) rfl, two_len, fun t2 n2 => ?_⟩
      have e2 := same_new (o := .tup [.int (c1 : Int), .int (d1 : Int)]) n2
      have e12 := e1.trans e2
      have q1 : PlV K (upd H t1 (.tup [.int (a1 : Int), .int (b1 : Int)])) (.ref t1) (a1, b1) := PlV.new (a1, b1)
      have q2 := PlV.new (K := K) (H := upd H t1 (.tup [.int (a1 : Int), .int (b1 : Int)])) (a := t2) (c1, d1)
      refine ⟨p, l1, l2, l3, l4, m, _, _, ⟨k, (a1, b1), (c1, d1)⟩, rfl, sh.mono e12, ok, q1.mono e2, q2, ⟨h1, h2, h3, h4⟩, fun H' l po => q H' l ?_⟩
      obtain ⟨k1, k2, k3, k4, sh', fr, out⟩ := po.sh
      refine ⟨⟨k1, k2, k3, k4, sh', fun z hz => ?_, out⟩, fun b o hb h1 h2 => po.kp b o (e12 b o hb) h1 h2, po.li, e12.free po.new⟩
      rcases fr z hz with z1 | z1
      · exact .inl z1
      · exact .inr (e12.free z1)
    | advise ws hw =>
      refine ⟨_, rfl, _, _, _, _, rfl, rfl, ha, atI_nat (j := 0) rfl, rfl, _, dZ 3 0, iteD (fun e => absurd e (by decide)) (fun _ => ?_)⟩
      refine ⟨_, rfl, _, _, _, _, rfl, rfl, ha, atI_nat (j := 0) rfl, rfl, _, dZ 3 1, iteD (fun e => absurd e (by decide)) (fun _ => ?_)⟩
      refine ⟨_, rfl, _, _, _, _, rfl, rfl, ha, atI_nat (j := 0) rfl, rfl, _, dZ 3 2, iteD (fun e => absurd e (by decide)) (fun _ => ?_)⟩
      refine ⟨_, rfl, _, _, _, _, rfl, rfl, ha, atI_nat (j := 0) rfl, rfl, _, dZ 3 3, iteD (fun _ => ?_) (fun e => absurd rfl e)⟩
      refine ⟨_, rfl, p, dx, _, rfl, hp, lk_no _ _ _ _ _ _ _ _ _ (by decide +kernel), _, rfl, _, rfl, a, _, rfl, ha, fun c hc => ?_⟩
      have ec : cutV (List.map V.int ((3 : Int) :: (ws.length : Int) :: ws.map Int.ofNat)) (some 2) none = nv ws := by
        rw [nv_ints]
        exact cut_from2 _ _ _
      rw [ec]
      have e1 := same_new (o := .lst (nv ws)) hc
      exact ⟨p, l1, l2, l3, l4, m, _, ws, rfl, sh.mono e1, ok, ⟨c, rfl, SqL.of upd_same⟩, fun H' l e n hl => q H' l (.of_ret sh (e1.trans e) (e1.free n) hl)⟩
    | share i =>
      refine ⟨_, rfl, _, _, _, _, rfl, rfl, ha, atI_nat (j := 0) rfl, rfl, _, dZ 4 0, iteD (fun e => absurd e (by decide)) (fun _ => ?_)⟩
      refine ⟨_, rfl, _, _, _, _, rfl, rfl, ha, atI_nat (j := 0) rfl, rfl, _, dZ 4 1, iteD (fun e => absurd e (by decide)) (fun _ => ?_)⟩
      refine ⟨_, rfl, _, _, _, _, rfl, rfl, ha, atI_nat (j := 0) rfl, rfl, _, dZ 4 2, iteD (fun e => absurd e (by decide)) (fun _ => ?_)⟩
      refine ⟨_, rfl, _, _, _, _, rfl, rfl, ha, atI_nat (j := 0) rfl, rfl, _, dZ 4 3, iteD (fun e => absurd e (by decide)) (fun _ => ?_)⟩
      exact ⟨_, rfl, p, dx, _, rfl, hp, lk_no _ _ _ _ _ _ _ _ _ (by decide +kernel), _, rfl, _, _, _, _, rfl, rfl, ha, atI_nat (j := 1) rfl, p, l1, l2, l3, l4, m, i, rfl, sh, ok, fun H' l e n hl => q H' l (.of_ret sh e n hl)⟩
end
end Ck

set_option Elab.async false
set_option linter.all false
set_option maxRecDepth 100000
set_option maxHeartbeats 2000000
namespace Ck
open PySem PySem.Spec PyProof.Rows L2
/-! ### a list beside the object is written -/
section
variable {K : PySem.W.Frag} {C p g l1 l2 l3 l4 : Addr} {H H' : Hp} {m : M} {zs ys : List V}
theorem Kp.tupL {a : Addr} {xs : List V} (e : Kp g H H') (hg : H g = some (.lst zs)) (h : SqT K H a xs) : SqT K H' a xs := by
  rcases h with (h | ⟨o, h⟩) | h
  · exact .inl (.inl (e _ _ h (ne_of h hg (by intro z; cases z))))
  · exact .inl (.inr ⟨o, e _ _ h (ne_of h hg (by intro z; cases z))⟩)
  · exact .inr h
theorem Kp.stL {x : V} {q : Kv204.Stretch} (e : Kp g H H') (hg : H g = some (.lst zs)) (h : StV K H x q) : StV K H' x q := by
  obtain ⟨a, y, z, rfl, h, ⟨b, rfl, h1⟩, ⟨c, rfl, h2⟩⟩ := h
  exact ⟨a, _, _, rfl, e.tupL hg h, ⟨b, rfl, e.tupL hg h1⟩, ⟨c, rfl, e.tupL hg h2⟩⟩
theorem Kp.stsL (e : Kp g H H') (hg : H g = some (.lst zs)) : ∀ {xs : List V} {ss : List Kv204.Stretch}, Sts K H xs ss → Sts K H' xs ss
  | _, _, .nil => .nil
  | _, _, .cons a b => .cons (e.stL hg a) (Kp.stsL e hg b)
theorem Sh.off (h : Sh K C H p m l1 l2 l3 l4) (hg : H g = some (.lst zs)) (ng : g ∉ [l1, l2, l3, l4]) : Sh K C (upd H g (.lst ys)) p m l1 l2 l3 l4 := by
  obtain ⟨dx, vc, vt, hp, hc, ht⟩ := h.ex
  obtain ⟨x1, a1, b1⟩ := h.p1
  obtain ⟨x3, a3, b3⟩ := h.p3
  have e : Kp g H (upd H g (.lst ys)) := Kp.put
  simp only [List.mem_cons, List.not_mem_nil, or_false, not_or] at ng
  obtain ⟨g1, g2, g3, g4⟩ := ng
  exact ⟨⟨dx, vc, vt, e _ _ hp (ne_of hp hg (by intro z; cases z)), e.stL hg hc, e.stL hg ht⟩, ⟨x1, e _ _ a1 (Ne.symm g1), e.stsL hg b1⟩, e _ _ h.p2 (Ne.symm g2), ⟨x3, e _ _ a3 (Ne.symm g3), e.stsL hg b3⟩, e _ _ h.p4 (Ne.symm g4), h.d12, h.d13, h.d14, h.d23, h.d24, h.d34⟩
end
/-! ### answers -/
structure Lp (K : PySem.W.Frag) (C : Addr) (H0 : Hp) (L : List Int) (p g : Addr) (pre rest : List Int) (cs : List (List (List Int))) (ab : Kv204.Abs) (out : List Int) (l1 l2 l3 l4 : Addr) (H : Hp) : Prop where
  sm : Same H0 H
  sh : Sh K C H p (mOf ab) l1 l2 l3 l4
  fr : ∀ x ∈ [l1, l2, l3, l4], H0 x = none
  hg : H g = some (.lst (out.map V.int))
  ng : g ∉ [l1, l2, l3, l4]
  eL : L = pre ++ rest
  cl : Calls rest cs
  gd : Good ab
  eo : out ++ tail_ (some ab) cs = PyKv204.answers L
  sz : out.length + 10 * cs.length ≤ 2560
theorem start_same {n : Nat} {t : List (List (List Int))} (h1 : 1 ≤ n) (h2 : n ≤ 64) (ab : Kv204.Abs) : tail_ none ([[0, (n : Int)]] :: t) = tail_ (some ab) ([[0, (n : Int)]] :: t) := by
  rw [tail_cons none _ t (k := .start n) rfl, tail_cons (some ab) _ t (k := .start n) rfl]
  have e1 : Kv204.act none (.start n) = (some { cells := n }, Kv204.no 0) := by
    show (if n < 1 ∨ 64 < n then ((none, Kv204.no (-22)) : Kv204.State × Kv204.Ans) else (some { cells := n }, Kv204.no 0)) = _
    rw [if_neg (by omega)]
  have e2 : Kv204.act (some ab) (.start n) = (some { cells := n }, Kv204.no 0) := by
    show (if n < 1 ∨ 64 < n then ((some ab, Kv204.no (-22)) : Kv204.State × Kv204.Ans) else (some { cells := n }, Kv204.no 0)) = _
    rw [if_neg (by omega)]
  rw [e1, e2]
section
variable {P : Program} {w : World} {K : PySem.W.Frag} {mg : Str → Option Value} {base : Heap} {C : Addr}
def spAnswers (K : PySem.W.Frag) : Sp := fun vs H Q _ => ∃ (a : Addr) (L : List Int), vs = [.ref a] ∧ SqL K H a (L.map V.int) ∧ PyKv204.answers_asked L = true ∧ ∀ (H' : Hp) (g : Addr), H' g = some (.lst ((PyKv204.answers L).map V.int)) → Q (.ref g) H'
theorem sc_answers : FnScope ["calls", "sharing", "given", "at", "behind", "numbers"] ["calls"] (defScope (top 45)) := ⟨rfl, rfl, rfl, by decide +kernel, rfl, by decide +kernel, by decide +kernel⟩
theorem ok_answers {f : Addr} {fd : FuncData} (F : Fun K "answers" "answers" (top 45) f fd) (T : Txt K mg C) : FnOk P w K mg base CX0 9 f fd ["calls"] (spAnswers K) := by
  have M_init : Ini P w K mg base C 2 (spInit K C) := ini_ok T
  have G_call_length : Fn P w K mg base "call_length" _ 1 (spLen K) := fn_call_length T
  have G_answer : Fn P w K mg base "answer" _ 8 (spAnswer K C) := fn_answer T
  refine F.ok sc_answers (fun vs H Q E h => ?_) (fun cdv A outer s H vs Q E hr h => ?_)
  · obtain ⟨a, L, rfl, _⟩ := h
    rfl
  · obtain ⟨a, L, rfl, ha, hask, q⟩ := h
    refine ⟨_, (pss_cons (ps_set (i := 1) sc_answers.nd rfl (Or.inl rfl) (pe_mk M_init hr T.mgC)) (pss_cons (ps_set (i := 2) sc_answers.nd rfl (Or.inl rfl) (pe_lst pa_nil)) (pss_cons (ps_set (i := 3) sc_answers.nd rfl (Or.inl rfl) pe_int) (pss_cons (ps_while PassesOwn.never (pt_cmpR op_lt (pv 3) (pe_callB call_len_seq (by rfl) T.b_len bt_len (pa_cons (pv 0) pa_nil)) (nomark _)) (pss_cons (ps_set (i := 4) sc_answers.nd rfl (Or.inl rfl) (pe_op op_add (pv 3) (pe_fn G_call_length hr (pa_cons (pv 0) (pa_cons (pv 3) pa_nil))))) (pss_cons (ps_set (i := 5) sc_answers.nd rfl (Or.inl rfl) (pe_fn G_answer hr (pa_cons (pv 1) (pa_cons (pe_slice sl_list (pv 0) (po_some (pv 3)) (po_some (pv 4))) pa_nil)))) (pss_cons (ps_expr (pe_bm PySem.F.plainAttrs_list PySem.F.slot_list_append PySem.F.type_list_append mt_append (pv 2) (pa_cons (pe_callB call_len_seq (by rfl) T.b_len bt_len (pa_cons (pv 5) pa_nil)) pa_nil))) (pss_cons (ps_expr (pe_bm PySem.F.plainAttrs_list PySem.F.slot_list_extend PySem.F.type_list_extend mt_extend (pv 2) (pa_cons (pv 5) pa_nil))) (pss_one (ps_set (i := 3) sc_answers.nd rfl (Or.inl rfl) (pv 4)))))))) (pss_one (ps_ret (pv 2))))))), ?_⟩
    obtain ⟨cs0, n0, t0, hcl, hc256, ecs, hn1, hn64, eans⟩ := asked_of hask
    -- sharing = Sharing()
    intro p dx np ndx nex
    refine ⟨p, dx, rfl, upd_same, fun H1 l1 l2 l3 l4 sh1 kp1 f1 f2 f3 f4 => ⟨rfl, ?_⟩⟩
    have hdx : ∀ {b : Addr}, upd (upd H dx (.own p)) p (.ins C dx []) b = none → H b = none := fun {b} h => dm_upd (dm_upd h)
    have sm1 : Same H H1 := fun b o hb => by
      have hbp : b ≠ p := ne_of_none hb np
      refine kp1 b o ?_ hbp
      rw [upd_ne hbp, upd_ne (ne_of_none hb ndx)]
      exact hb
    -- given = []
    refine ⟨Nat.zero_le _, fun g ng => ?_⟩
    have sh2 := sh1.mono (same_new (o := .lst []) ng)
    have hG : H g = none := sm1.free ng
    have good64 : Good { cells := 64 } := .cut (by decide) (by decide)
    have start : Lp K C H L p g [] L cs0 { cells := 64 } [] l1 l2 l3 l4 (upd H1 g (.lst [])) := by
      refine ⟨sm1.trans (same_new ng), sh2, fun x hx => ?_, upd_same, sh1.out ng, rfl, hcl, good64, ?_, ?_⟩
      · simp only [List.mem_cons, List.not_mem_nil, or_false] at hx
        rcases hx with rfl | rfl | rfl | rfl
        · exact hdx f1
        · exact hdx f2
        · exact hdx f3
        · exact hdx f4
      · rw [List.nil_append, eans, ecs]
        exact (start_same hn1 hn64 _).symm
      · show 0 + 10 * cs0.length ≤ 2560
        omega
    -- while at < len(calls)
    refine ⟨fun mm σ H' => ∃ (pre rest : List Int) (cs : List (List (List Int))) (ab : Kv204.Abs) (out : List Int) (k1 k2 k3 k4 : Addr) (b nn : Option V), σ = [some (.ref a), some (.ref p), some (.ref g), some (.int (pre.length : Nat)), b, nn] ∧ Lp K C H L p g pre rest cs ab out k1 k2 k3 k4 H' ∧ mm = rest.length,
      ⟨_, [], L, cs0, { cells := 64 }, [], l1, l2, l3, l4, none, none, rfl, start, rfl⟩, ?_⟩
    rintro mm σ H2 ⟨pre, rest, cs, ab, out, k1, k2, k3, k4, b, nn, rfl, lp, rfl⟩
    have ha2 := lp.sm.seq ha
    refine ⟨_, rfl, _, rfl, a, _, rfl, .inl ha2, _, _, rfl, rfl, _, rfl, ?_⟩
    have hlen : (L.map V.int).length = pre.length + rest.length := by rw [List.length_map, lp.eL, List.length_append]
    rw [hlen]
    obtain ⟨sm2, sh2', fr2, hg2, ng2, eL, hcl2, gd, eo, sz⟩ := lp
    cases hcl2 with
    | nil =>
      rw [decide_eq_false (by show ¬ (pre.length : Int) < ((pre.length + 0 : Nat) : Int); omega)]
      refine iteF ⟨_, rfl, q H2 g ?_⟩
      have : tail_ (some ab) [] = [] := rfl
      rw [this, List.append_nil] at eo
      rw [← eo]
      exact hg2
    | @cons x l c cs k tl hcl3 =>
      have hx0 := told_len tl
      rw [decide_eq_true (by show (pre.length : Int) < ((pre.length + (x ++ l).length : Nat) : Int); rw [List.length_append]; omega)]
      obtain ⟨b', eb, gb, dd⟩ := act_ok gd tl
      have et := tail_cons (some ab) c cs (callOf_of tl)
      generalize hrow : Kv204Neutral.row (Kv204.act (some ab) k).2 = row at dd et
      have hrl := does_len dd
      rw [eb] at et
      refine iteT ⟨fun σ' H' => ∃ (k1 k2 k3 k4 : Addr) (b nn : Option V), σ' = [some (.ref a), some (.ref p), some (.ref g), some (.int ((pre ++ x).length : Nat)), b, nn] ∧ Lp K C H L p g (pre ++ x) l cs b' (out ++ ((row.length : Int) :: row)) k1 k2 k3 k4 H', ?_, ?_⟩
      · rintro σ' H' ⟨k1, k2, k3, k4, b, nn, rfl, lp'⟩
        refine ⟨l.length, by rw [List.length_append]; omega, pre ++ x, l, cs, b', _, k1, k2, k3, k4, b, nn, rfl, lp', rfl⟩
      · -- behind = at + call_length(calls, at)
        refine ⟨_, rfl, _, rfl, _, rfl, a, L, pre, x, l, c, k, rfl, ha2, eL, tl, _, _, rfl, rfl, ?_⟩
        -- numbers = answer(sharing, calls[at:behind])
        refine ⟨_, rfl, _, rfl, _, rfl, _, rfl, _, rfl, _, rfl, a, _, rfl, ha2, fun d nd => ?_⟩
        rw [cut_at eL]
        have e3 := same_new (o := .lst (x.map V.int)) nd
        refine ⟨p, k1, k2, k3, k4, d, mOf ab, mOf b', x, row, rfl, sh2'.mono e3, ok_of gd, SqL.of upd_same, dd, fun H4 r po => ?_⟩
        obtain ⟨j1, j2, j3, j4, sh4, fr4, out4⟩ := po.sh
        have hg3 := e3 _ _ hg2
        obtain ⟨dx4, _, _, hp3, _, _⟩ := (sh2'.mono e3).ex
        have gp : g ≠ p := ne_of hg3 hp3 (by intro z; cases z)
        have hg4 := po.kp g _ hg3 gp ng2
        have hl4 := po.li
        have ngr : r ≠ g := fun z => by
          have := po.new
          rw [z, hg3] at this
          cases this
        have ngj : g ∉ [j1, j2, j3, j4] := fun z => by
          rcases fr4 g z with y | y
          · exact ng2 y
          · rw [hg3] at y
            cases y
        have o1 : out.length + 11 ≤ sizeLine := by
          have : 2600 ≤ sizeLine := by decide
          omega
        -- given.append(len(numbers))
        refine ⟨_, rfl, .inl ⟨rfl, _, SqL.of hg4⟩, _, rfl, r, _, rfl, .inl (SqL.of hl4), g, _, _, rfl, rfl, hg4, (by rw [List.length_map]; omega), ?_⟩
        have hl5 : upd H4 g (.lst (out.map V.int ++ [V.int ((row.map V.int).length : Nat)])) r = some (.lst (row.map V.int)) := by
          rw [upd_ne ngr]
          exact hl4
        have sh5 := sh4.off (ys := out.map V.int ++ [V.int ((row.map V.int).length : Nat)]) hg4 ngj
        -- given.extend(numbers)
        refine ⟨_, rfl, .inl ⟨rfl, _, SqL.of upd_same⟩, _, rfl, g, r, _, _, rfl, rfl, upd_same, hl5, ?_, ?_⟩
        · rw [List.length_append, List.length_map, List.length_map, List.length_singleton]
          omega
        have sh6 := sh5.off (ys := (out.map V.int ++ [V.int ((row.map V.int).length : Nat)]) ++ row.map V.int) upd_same ngj
        refine ⟨_, rfl, j1, j2, j3, j4, some (.int ((pre.length : Int) + (x.length : Int))), some (.ref r), ?_, ?_⟩
        · rw [List.length_append]
          rfl
        · refine ⟨fun u o hu => ?_, sh6, fun z hz => ?_, ?_, ngj, ?_, hcl3, gb, ?_, ?_⟩
          · have h1 := e3 _ _ (sm2 u o hu)
            have h2 : u ≠ g := ne_of_none hu hG
            have h3 : u ≠ p := ne_of_none hu np
            have h4 : u ∉ [k1, k2, k3, k4] := fun z => by
              have := fr2 u z
              rw [hu] at this
              cases this
            rw [upd_ne h2, upd_ne h2]
            exact po.kp u o h1 h3 h4
          · rcases fr4 z hz with y | y
            · exact fr2 z y
            · exact (sm2.trans e3).free y
          · rw [upd_same, List.map_append, List.map_cons, List.length_map, List.append_assoc]
            rfl
          · rw [eL, List.append_assoc]
          · rw [List.append_assoc, List.cons_append, ← et]
            exact eo
          · rw [List.length_append, List.length_cons]
            rw [List.length_cons] at sz
            omega
end
end Ck

set_option Elab.async false
set_option linter.all false
set_option maxRecDepth 100000
set_option maxHeartbeats 2000000
namespace Ck
open PySem PySem.Spec PyProof.Rows L2
/-! ### what the top has written -/
section
variable {K : PySem.W.Frag} {h : Heap} {mg : Str → Option Value} {C : Addr}
theorem int_mk {x : Str} {n : Int} {t : Tok} (X : K.In h) (G : h.Ns mainGlobals mg) (z : PySem.W.nsIn K mainGlobals x = some (some (.int n t))) : IntC mg x n := ⟨t, PySem.W.mg_of X G z⟩
theorem tup_mk {x : Str} {a : Addr} {od : Option Addr} {its : Array Value} {n : Nat} {sl : Array (Option Value)} {xs : List V} (X : K.In h) (G : h.Ns mainGlobals mg) (z : PySem.W.nsIn K mainGlobals x = some (some (.ref a)))
    (l : K.lookup a = some ⟨.type "tuple", od, .seq its n, sl⟩) (s : its.size ≤ sizeLine) (v : Vals xs its.toList) : TupC K mg x xs := ⟨a, PySem.W.mg_of X G z, fun _ => .inr ⟨_, its, n, l, rfl, rfl, s, v⟩⟩
theorem no_mk {f : Str} (z : PySem.W.findIn K (.ref C) f = some none) : NoAttr K C f := z
theorem df_mk {x : Str} {st : Stmt} {ps : List Str} {f : Addr} {oc : Value} {od an : Option Addr} {osl : Array (Option Value)} {kV doc pm cdv ct : Value} (X : K.In h) (G : h.Ns mainGlobals mg) (a : PySem.W.nsIn K mainGlobals x = some (some (.ref f)))
    (l : K.lookup f = some ⟨oc, od, .func (PySem.W.fnOf x x (defArgs st) (defBody st) (defScope st) .none kV doc pm an cdv ct), osl⟩) (c : PySem.W.codeIn K cdv x = true) (k : PySem.W.keepIn K (.ref f) = true)
    (b : ∀ (kV doc pm : Value) (an : Option Addr) (cdv ct : Value) (us : List Value), us.length = ps.length → bindArgs (PySem.W.fnOf x x (defArgs st) (defBody st) (defScope st) .none kV doc pm an cdv ct) ⟨us, []⟩ = pure (ps.zip us)) : Df K mg x st ps :=
  ⟨f, _, fun_mk l c k, PySem.W.mg_of X G a, (fun_mk l c k).binds b⟩
theorem dm_mk {m q : Str} {st : Stmt} {ps : List Str} {f : Addr} {oc : Value} {od an : Option Addr} {osl : Array (Option Value)} {kV doc pm cdv ct : Value} (a : PySem.W.findIn K (.ref C) m = some (some (.ref f))) (i : PySem.W.isFn K (.ref f) = true)
    (l : K.lookup f = some ⟨oc, od, .func (PySem.W.fnOf m q (defArgs st) (defBody st) (defScope st) .none kV doc pm an cdv ct), osl⟩) (c : PySem.W.codeIn K cdv q = true) (k : PySem.W.keepIn K (.ref f) = true)
    (b : ∀ (kV doc pm : Value) (an : Option Addr) (cdv ct : Value) (us : List Value), us.length = ps.length → bindArgs (PySem.W.fnOf m q (defArgs st) (defBody st) (defScope st) .none kV doc pm an cdv ct) ⟨us, []⟩ = pure (ps.zip us)) : Dm K C m q st ps :=
  ⟨f, _, fun_mk l c k, ⟨a, i, k⟩, (fun_mk l c k).binds b⟩
theorem di_mk {st : Stmt} {f : Addr} {oc : Value} {od an : Option Addr} {osl : Array (Option Value)} {kV doc pm cdv ct : Value} (mk : PySem.W.makesIn K C = true) (a : PySem.W.findIn K (.ref C) "__init__" = some (some (.ref f))) (i : PySem.W.isFn K (.ref f) = true) (kc : PySem.W.keepIn K (.ref C) = true)
    (l : K.lookup f = some ⟨oc, od, .func (PySem.W.fnOf "__init__" "Sharing.__init__" (defArgs st) (defBody st) (defScope st) .none kV doc pm an cdv ct), osl⟩) (c : PySem.W.codeIn K cdv "Sharing.__init__" = true) (k : PySem.W.keepIn K (.ref f) = true)
    (b : ∀ (kV doc pm : Value) (an : Option Addr) (cdv ct : Value) (us : List Value), us.length = (["self"] : List Str).length → bindArgs (PySem.W.fnOf "__init__" "Sharing.__init__" (defArgs st) (defBody st) (defScope st) .none kV doc pm an cdv ct) ⟨us, []⟩ = pure ((["self"] : List Str).zip us)) : Di K C st :=
  ⟨f, _, fun_mk l c k, ⟨mk, a, i, kc⟩, (fun_mk l c k).binds b⟩
end
theorem bd_common_divisor (kV doc pm : Value) (an : Option Addr) (cdv ct : Value) (us : List Value) (hl : us.length = (["first", "second"] : List Str).length) : bindArgs (PySem.W.fnOf "common_divisor" "common_divisor" (defArgs (top 24)) (defBody (top 24)) (defScope (top 24)) .none kV doc pm an cdv ct) ⟨us, []⟩ = pure ((["first", "second"] : List Str).zip us) := match us, hl with | [_, _], _ => rfl
theorem bd_lowest (kV doc pm : Value) (an : Option Addr) (cdv ct : Value) (us : List Value) (hl : us.length = (["over", "under"] : List Str).length) : bindArgs (PySem.W.fnOf "lowest" "lowest" (defArgs (top 25)) (defBody (top 25)) (defScope (top 25)) .none kV doc pm an cdv ct) ⟨us, []⟩ = pure ((["over", "under"] : List Str).zip us) := match us, hl with | [_, _], _ => rfl
theorem bd_added (kV doc pm : Value) (an : Option Addr) (cdv ct : Value) (us : List Value) (hl : us.length = (["first", "second"] : List Str).length) : bindArgs (PySem.W.fnOf "added" "added" (defArgs (top 26)) (defBody (top 26)) (defScope (top 26)) .none kV doc pm an cdv ct) ⟨us, []⟩ = pure ((["first", "second"] : List Str).zip us) := match us, hl with | [_, _], _ => rfl
theorem bd_less (kV doc pm : Value) (an : Option Addr) (cdv ct : Value) (us : List Value) (hl : us.length = (["first", "second"] : List Str).length) : bindArgs (PySem.W.fnOf "less" "less" (defArgs (top 27)) (defBody (top 27)) (defScope (top 27)) .none kV doc pm an cdv ct) ⟨us, []⟩ = pure ((["first", "second"] : List Str).zip us) := match us, hl with | [_, _], _ => rfl
theorem bd_is_up_to (kV doc pm : Value) (an : Option Addr) (cdv ct : Value) (us : List Value) (hl : us.length = (["first", "second"] : List Str).length) : bindArgs (PySem.W.fnOf "is_up_to" "is_up_to" (defArgs (top 28)) (defBody (top 28)) (defScope (top 28)) .none kV doc pm an cdv ct) ⟨us, []⟩ = pure ((["first", "second"] : List Str).zip us) := match us, hl with | [_, _], _ => rfl
theorem bd_is_place (kV doc pm : Value) (an : Option Addr) (cdv ct : Value) (us : List Value) (hl : us.length = (["place", "most_under"] : List Str).length) : bindArgs (PySem.W.fnOf "is_place" "is_place" (defArgs (top 29)) (defBody (top 29)) (defScope (top 29)) .none kV doc pm an cdv ct) ⟨us, []⟩ = pure ((["place", "most_under"] : List Str).zip us) := match us, hl with | [_, _], _ => rfl
theorem bd_is_within (kV doc pm : Value) (an : Option Addr) (cdv ct : Value) (us : List Value) (hl : us.length = (["place", "stretch"] : List Str).length) : bindArgs (PySem.W.fnOf "is_within" "is_within" (defArgs (top 30)) (defBody (top 30)) (defScope (top 30)) .none kV doc pm an cdv ct) ⟨us, []⟩ = pure ((["place", "stretch"] : List Str).zip us) := match us, hl with | [_, _], _ => rfl
theorem bd_may_cut (kV doc pm : Value) (an : Option Addr) (cdv ct : Value) (us : List Value) (hl : us.length = (["stretch", "first", "second", "most_under"] : List Str).length) : bindArgs (PySem.W.fnOf "may_cut" "may_cut" (defArgs (top 31)) (defBody (top 31)) (defScope (top 31)) .none kV doc pm an cdv ct) ⟨us, []⟩ = pure ((["stretch", "first", "second", "most_under"] : List Str).zip us) := match us, hl with | [_, _, _, _], _ => rfl
theorem bd_may_trim (kV doc pm : Value) (an : Option Addr) (cdv ct : Value) (us : List Value) (hl : us.length = (["piece", "place"] : List Str).length) : bindArgs (PySem.W.fnOf "may_trim" "may_trim" (defArgs (top 32)) (defBody (top 32)) (defScope (top 32)) .none kV doc pm an cdv ct) ⟨us, []⟩ = pure ((["piece", "place"] : List Str).zip us) := match us, hl with | [_, _], _ => rfl
theorem bd_cut_in_three (kV doc pm : Value) (an : Option Addr) (cdv ct : Value) (us : List Value) (hl : us.length = (["stretch", "first", "second"] : List Str).length) : bindArgs (PySem.W.fnOf "cut_in_three" "cut_in_three" (defArgs (top 33)) (defBody (top 33)) (defScope (top 33)) .none kV doc pm an cdv ct) ⟨us, []⟩ = pure ((["stretch", "first", "second"] : List Str).zip us) := match us, hl with | [_, _, _], _ => rfl
theorem bd_third_of (kV doc pm : Value) (an : Option Addr) (cdv ct : Value) (us : List Value) (hl : us.length = (["first", "second"] : List Str).length) : bindArgs (PySem.W.fnOf "third_of" "third_of" (defArgs (top 34)) (defBody (top 34)) (defScope (top 34)) .none kV doc pm an cdv ct) ⟨us, []⟩ = pure ((["first", "second"] : List Str).zip us) := match us, hl with | [_, _], _ => rfl
theorem bd_mark (kV doc pm : Value) (an : Option Addr) (cdv ct : Value) (us : List Value) (hl : us.length = (["worth", "place"] : List Str).length) : bindArgs (PySem.W.fnOf "mark" "mark" (defArgs (top 35)) (defBody (top 35)) (defScope (top 35)) .none kV doc pm an cdv ct) ⟨us, []⟩ = pure ((["worth", "place"] : List Str).zip us) := match us, hl with | [_, _], _ => rfl
theorem bd_stretch_worth (kV doc pm : Value) (an : Option Addr) (cdv ct : Value) (us : List Value) (hl : us.length = (["worth", "stretch"] : List Str).length) : bindArgs (PySem.W.fnOf "stretch_worth" "stretch_worth" (defArgs (top 36)) (defBody (top 36)) (defScope (top 36)) .none kV doc pm an cdv ct) ⟨us, []⟩ = pure ((["worth", "stretch"] : List Str).zip us) := match us, hl with | [_, _], _ => rfl
theorem bd_first_place_with (kV doc pm : Value) (an : Option Addr) (cdv ct : Value) (us : List Value) (hl : us.length = (["worth", "begin", "wanted"] : List Str).length) : bindArgs (PySem.W.fnOf "first_place_with" "first_place_with" (defArgs (top 37)) (defBody (top 37)) (defScope (top 37)) .none kV doc pm an cdv ct) ⟨us, []⟩ = pure ((["worth", "begin", "wanted"] : List Str).zip us) := match us, hl with | [_, _, _], _ => rfl
theorem bd_thirds (kV doc pm : Value) (an : Option Addr) (cdv ct : Value) (us : List Value) (hl : us.length = (["worth", "stretch"] : List Str).length) : bindArgs (PySem.W.fnOf "thirds" "thirds" (defArgs (top 38)) (defBody (top 38)) (defScope (top 38)) .none kV doc pm an cdv ct) ⟨us, []⟩ = pure ((["worth", "stretch"] : List Str).zip us) := match us, hl with | [_, _], _ => rfl
theorem bd_worth_most (kV doc pm : Value) (an : Option Addr) (cdv ct : Value) (us : List Value) (hl : us.length = (["worth", "stretches", "numbers"] : List Str).length) : bindArgs (PySem.W.fnOf "worth_most" "worth_most" (defArgs (top 39)) (defBody (top 39)) (defScope (top 39)) .none kV doc pm an cdv ct) ⟨us, []⟩ = pure ((["worth", "stretches", "numbers"] : List Str).zip us) := match us, hl with | [_, _, _], _ => rfl
theorem bd_trim_advised (kV doc pm : Value) (an : Option Addr) (cdv ct : Value) (us : List Value) (hl : us.length = (["worth", "pieces", "which"] : List Str).length) : bindArgs (PySem.W.fnOf "trim_advised" "trim_advised" (defArgs (top 40)) (defBody (top 40)) (defScope (top 40)) .none kV doc pm an cdv ct) ⟨us, []⟩ = pure ((["worth", "pieces", "which"] : List Str).zip us) := match us, hl with | [_, _, _], _ => rfl
theorem bd_advice (kV doc pm : Value) (an : Option Addr) (cdv ct : Value) (us : List Value) (hl : us.length = (["which", "first", "second"] : List Str).length) : bindArgs (PySem.W.fnOf "advice" "advice" (defArgs (top 41)) (defBody (top 41)) (defScope (top 41)) .none kV doc pm an cdv ct) ⟨us, []⟩ = pure ((["which", "first", "second"] : List Str).zip us) := match us, hl with | [_, _, _], _ => rfl
theorem bm___init__ (kV doc pm : Value) (an : Option Addr) (cdv ct : Value) (us : List Value) (hl : us.length = (["self"] : List Str).length) : bindArgs (PySem.W.fnOf "__init__" "Sharing.__init__" (defArgs (md 0)) (defBody (md 0)) (defScope (md 0)) .none kV doc pm an cdv ct) ⟨us, []⟩ = pure ((["self"] : List Str).zip us) := match us, hl with | [_], _ => rfl
theorem bm_begin (kV doc pm : Value) (an : Option Addr) (cdv ct : Value) (us : List Value) (hl : us.length = (["self", "cells"] : List Str).length) : bindArgs (PySem.W.fnOf "begin" "Sharing.begin" (defArgs (md 1)) (defBody (md 1)) (defScope (md 1)) .none kV doc pm an cdv ct) ⟨us, []⟩ = pure ((["self", "cells"] : List Str).zip us) := match us, hl with | [_, _], _ => rfl
theorem bm_start (kV doc pm : Value) (an : Option Addr) (cdv ct : Value) (us : List Value) (hl : us.length = (["self", "cells"] : List Str).length) : bindArgs (PySem.W.fnOf "start" "Sharing.start" (defArgs (md 2)) (defBody (md 2)) (defScope (md 2)) .none kV doc pm an cdv ct) ⟨us, []⟩ = pure ((["self", "cells"] : List Str).zip us) := match us, hl with | [_, _], _ => rfl
theorem bm_holder (kV doc pm : Value) (an : Option Addr) (cdv ct : Value) (us : List Value) (hl : us.length = (["self"] : List Str).length) : bindArgs (PySem.W.fnOf "holder" "Sharing.holder" (defArgs (md 3)) (defBody (md 3)) (defScope (md 3)) .none kV doc pm an cdv ct) ⟨us, []⟩ = pure ((["self"] : List Str).zip us) := match us, hl with | [_], _ => rfl
theorem bm_parter (kV doc pm : Value) (an : Option Addr) (cdv ct : Value) (us : List Value) (hl : us.length = (["self"] : List Str).length) : bindArgs (PySem.W.fnOf "parter" "Sharing.parter" (defArgs (md 4)) (defBody (md 4)) (defScope (md 4)) .none kV doc pm an cdv ct) ⟨us, []⟩ = pure ((["self"] : List Str).zip us) := match us, hl with | [_], _ => rfl
theorem bm_person (kV doc pm : Value) (an : Option Addr) (cdv ct : Value) (us : List Value) (hl : us.length = (["self"] : List Str).length) : bindArgs (PySem.W.fnOf "person" "Sharing.person" (defArgs (md 5)) (defBody (md 5)) (defScope (md 5)) .none kV doc pm an cdv ct) ⟨us, []⟩ = pure ((["self"] : List Str).zip us) := match us, hl with | [_], _ => rfl
theorem bm_turn (kV doc pm : Value) (an : Option Addr) (cdv ct : Value) (us : List Value) (hl : us.length = (["self"] : List Str).length) : bindArgs (PySem.W.fnOf "turn" "Sharing.turn" (defArgs (md 6)) (defBody (md 6)) (defScope (md 6)) .none kV doc pm an cdv ct) ⟨us, []⟩ = pure ((["self"] : List Str).zip us) := match us, hl with | [_], _ => rfl
theorem bm_choices (kV doc pm : Value) (an : Option Addr) (cdv ct : Value) (us : List Value) (hl : us.length = (["self"] : List Str).length) : bindArgs (PySem.W.fnOf "choices" "Sharing.choices" (defArgs (md 7)) (defBody (md 7)) (defScope (md 7)) .none kV doc pm an cdv ct) ⟨us, []⟩ = pure ((["self"] : List Str).zip us) := match us, hl with | [_], _ => rfl
theorem bm_may_say (kV doc pm : Value) (an : Option Addr) (cdv ct : Value) (us : List Value) (hl : us.length = (["self", "which", "first", "second"] : List Str).length) : bindArgs (PySem.W.fnOf "may_say" "Sharing.may_say" (defArgs (md 8)) (defBody (md 8)) (defScope (md 8)) .none kV doc pm an cdv ct) ⟨us, []⟩ = pure ((["self", "which", "first", "second"] : List Str).zip us) := match us, hl with | [_, _, _, _], _ => rfl
theorem bm_say (kV doc pm : Value) (an : Option Addr) (cdv ct : Value) (us : List Value) (hl : us.length = (["self", "which", "first", "second"] : List Str).length) : bindArgs (PySem.W.fnOf "say" "Sharing.say" (defArgs (md 9)) (defBody (md 9)) (defScope (md 9)) .none kV doc pm an cdv ct) ⟨us, []⟩ = pure ((["self", "which", "first", "second"] : List Str).zip us) := match us, hl with | [_, _, _, _], _ => rfl
theorem bm_trim (kV doc pm : Value) (an : Option Addr) (cdv ct : Value) (us : List Value) (hl : us.length = (["self", "which", "place"] : List Str).length) : bindArgs (PySem.W.fnOf "trim" "Sharing.trim" (defArgs (md 10)) (defBody (md 10)) (defScope (md 10)) .none kV doc pm an cdv ct) ⟨us, []⟩ = pure ((["self", "which", "place"] : List Str).zip us) := match us, hl with | [_, _, _], _ => rfl
theorem bm_choose (kV doc pm : Value) (an : Option Addr) (cdv ct : Value) (us : List Value) (hl : us.length = (["self", "which"] : List Str).length) : bindArgs (PySem.W.fnOf "choose" "Sharing.choose" (defArgs (md 11)) (defBody (md 11)) (defScope (md 11)) .none kV doc pm an cdv ct) ⟨us, []⟩ = pure ((["self", "which"] : List Str).zip us) := match us, hl with | [_, _], _ => rfl
theorem bm_end_without_trimmings (kV doc pm : Value) (an : Option Addr) (cdv ct : Value) (us : List Value) (hl : us.length = (["self"] : List Str).length) : bindArgs (PySem.W.fnOf "end_without_trimmings" "Sharing.end_without_trimmings" (defArgs (md 12)) (defBody (md 12)) (defScope (md 12)) .none kV doc pm an cdv ct) ⟨us, []⟩ = pure ((["self"] : List Str).zip us) := match us, hl with | [_], _ => rfl
theorem bm_fits (kV doc pm : Value) (an : Option Addr) (cdv ct : Value) (us : List Value) (hl : us.length = (["self", "worth"] : List Str).length) : bindArgs (PySem.W.fnOf "fits" "Sharing.fits" (defArgs (md 13)) (defBody (md 13)) (defScope (md 13)) .none kV doc pm an cdv ct) ⟨us, []⟩ = pure ((["self", "worth"] : List Str).zip us) := match us, hl with | [_, _], _ => rfl
theorem bm_advise (kV doc pm : Value) (an : Option Addr) (cdv ct : Value) (us : List Value) (hl : us.length = (["self", "worth"] : List Str).length) : bindArgs (PySem.W.fnOf "advise" "Sharing.advise" (defArgs (md 14)) (defBody (md 14)) (defScope (md 14)) .none kV doc pm an cdv ct) ⟨us, []⟩ = pure ((["self", "worth"] : List Str).zip us) := match us, hl with | [_, _], _ => rfl
theorem bm_share (kV doc pm : Value) (an : Option Addr) (cdv ct : Value) (us : List Value) (hl : us.length = (["self", "who"] : List Str).length) : bindArgs (PySem.W.fnOf "share" "Sharing.share" (defArgs (md 15)) (defBody (md 15)) (defScope (md 15)) .none kV doc pm an cdv ct) ⟨us, []⟩ = pure ((["self", "who"] : List Str).zip us) := match us, hl with | [_, _], _ => rfl
theorem bd_call_length (kV doc pm : Value) (an : Option Addr) (cdv ct : Value) (us : List Value) (hl : us.length = (["calls", "at"] : List Str).length) : bindArgs (PySem.W.fnOf "call_length" "call_length" (defArgs (top 43)) (defBody (top 43)) (defScope (top 43)) .none kV doc pm an cdv ct) ⟨us, []⟩ = pure ((["calls", "at"] : List Str).zip us) := match us, hl with | [_, _], _ => rfl
theorem bd_answer (kV doc pm : Value) (an : Option Addr) (cdv ct : Value) (us : List Value) (hl : us.length = (["sharing", "call"] : List Str).length) : bindArgs (PySem.W.fnOf "answer" "answer" (defArgs (top 44)) (defBody (top 44)) (defScope (top 44)) .none kV doc pm an cdv ct) ⟨us, []⟩ = pure ((["sharing", "call"] : List Str).zip us) := match us, hl with | [_, _], _ => rfl
theorem bd_answers (kV doc pm : Value) (an : Option Addr) (cdv ct : Value) (us : List Value) (hl : us.length = (["calls"] : List Str).length) : bindArgs (PySem.W.fnOf "answers" "answers" (defArgs (top 45)) (defBody (top 45)) (defScope (top 45)) .none kV doc pm an cdv ct) ⟨us, []⟩ = pure ((["calls"] : List Str).zip us) := match us, hl with | [_], _ => rfl
theorem top_ok {P : Program} {w : World} {K : PySem.W.Frag} {mg : Str → Option Value} {fa C : Addr} (hfa : mg "answers" = some (.ref fa)) (T : Txt K mg C) :
    ∃ fd : FuncData, (∀ (s : Shared) (us : List Value), us.length = (["calls"] : List Str).length → BindsTo s fd ⟨us, []⟩ ((["calls"] : List Str).zip us)) ∧ ∀ base : Heap, K.In base → base.Ns mainGlobals mg → FnOk P w K mg base CX0 9 fa fd ["calls"] (spAnswers K) := by
  obtain ⟨f, fd, F, hm, hb⟩ := T.d_answers.ex
  have e := hfa.symm.trans hm
  cases e
  obtain ⟨oc, od, kV, doc, pm, an, cdv, ct, osl, rfl, lk, hcd⟩ := F.ex
  exact ⟨_, fun s us hu => .of_eq (bd_answers kV doc pm an cdv ct us hu), fun base _ _ => ok_answers F T⟩
end Ck

set_option Elab.async false
open PySem PySem.W PyProof.Rows
set_option maxRecDepth 100000 in
set_option maxHeartbeats 0 in
theorem PySem.Challenge.cw_cakeshares_s01_answers_holds : PySem.Challenge.rw_cakeshares_s01_answers.Holds := by
  w_on; k_headS; (case hw => exact ⟨[.list [.int 0, .int 1]], by decide +kernel, by decide +kernel⟩)
  k_fillS
  refine L2.walk_specK (r := PySem.Challenge.rw_cakeshares_s01_answers) (k := 9) (CX := L2.CX0) (ps := ["calls"]) (sp := Ck.spAnswers) (by decide +kernel) rfl rfl ⟨rfl, by decide, by decide⟩ (fun w h Y => PySem.W.kIn_of Y) ?F ?S (fun _ _ _ _ z => z)
  case F =>
    intro w mg fa h Y KX G hmg
    refine' Ck.top_ok hmg (Ck.Txt.mk ?cl ?mgC ?c_START ?c_TURN ?c_SAY ?c_ADVISE ?c_CUT ?c_TRIM ?c_PIECE_BY_TWO ?c_PIECE_BY_ONE ?c_PART ?c_PART_BY_HOLDER ?c_PART_BY_ZERO ?c_OVER ?c_DONE ?c_NOT_NOW ?c_NOT_ALLOWED ?c_MOST_CELLS ?c_MOST_WORTH ?c_CUT_UNDER ?c_TRIM_UNDER ?c_PART_UNDER ?t_CALL_LENGTHS ?t_NO_PLACE ?t_ALL_THREE ?b_len ?b_sum ?b_max ?b_list ?d_common_divisor ?d_lowest ?d_added ?d_less ?d_is_up_to ?d_is_place ?d_is_within ?d_may_cut ?d_may_trim ?d_cut_in_three ?d_third_of ?d_mark ?d_stretch_worth ?d_first_place_with ?d_thirds ?d_worth_most ?d_trim_advised ?d_advice ?m_begin ?m_start ?m_holder ?m_parter ?m_person ?m_turn ?m_choices ?m_may_say ?m_say ?m_trim ?m_choose ?m_end_without_trimmings ?m_fits ?m_advise ?m_share ?d_call_length ?d_answer ?d_answers ?d_init ?n_cake ?n_cells ?n_stage ?n_pieces ?n_piece_of ?n_trimmed ?n_trimmings ?n_parts ?n_part_of)
    (case mgC => refine' PySem.W.mg_of KX G ?z; (case z => k_is))
    (case cl => refine' ⟨?pg, ?hd, ?po, ?sa⟩; (case pg => k_is); (case hd => k_is); (case po => k_is); (case sa => k_is))
    (case c_START => refine' Ck.int_mk KX G ?z; (case z => k_is))
    (case c_TURN => refine' Ck.int_mk KX G ?z; (case z => k_is))
    (case c_SAY => refine' Ck.int_mk KX G ?z; (case z => k_is))
    (case c_ADVISE => refine' Ck.int_mk KX G ?z; (case z => k_is))
    (case c_CUT => refine' Ck.int_mk KX G ?z; (case z => k_is))
    (case c_TRIM => refine' Ck.int_mk KX G ?z; (case z => k_is))
    (case c_PIECE_BY_TWO => refine' Ck.int_mk KX G ?z; (case z => k_is))
    (case c_PIECE_BY_ONE => refine' Ck.int_mk KX G ?z; (case z => k_is))
    (case c_PART => refine' Ck.int_mk KX G ?z; (case z => k_is))
    (case c_PART_BY_HOLDER => refine' Ck.int_mk KX G ?z; (case z => k_is))
    (case c_PART_BY_ZERO => refine' Ck.int_mk KX G ?z; (case z => k_is))
    (case c_OVER => refine' Ck.int_mk KX G ?z; (case z => k_is))
    (case c_DONE => refine' Ck.int_mk KX G ?z; (case z => k_is))
    (case c_NOT_NOW => refine' Ck.int_mk KX G ?z; (case z => k_is))
    (case c_NOT_ALLOWED => refine' Ck.int_mk KX G ?z; (case z => k_is))
    (case c_MOST_CELLS => refine' Ck.int_mk KX G ?z; (case z => k_is))
    (case c_MOST_WORTH => refine' Ck.int_mk KX G ?z; (case z => k_is))
    (case c_CUT_UNDER => refine' Ck.int_mk KX G ?z; (case z => k_is))
    (case c_TRIM_UNDER => refine' Ck.int_mk KX G ?z; (case z => k_is))
    (case c_PART_UNDER => refine' Ck.int_mk KX G ?z; (case z => k_is))
    (case t_CALL_LENGTHS => refine' Ck.tup_mk KX G ?z ?l ?s ?v; (case z => k_is); (case l => k_is); (case s => decide); (case v => exact (.cons ⟨_, rfl⟩ (.cons ⟨_, rfl⟩ (.cons ⟨_, rfl⟩ (.cons ⟨_, rfl⟩ (.cons ⟨_, rfl⟩ .nil)))))))
    (case t_NO_PLACE => refine' Ck.tup_mk KX G ?z ?l ?s ?v; (case z => k_is); (case l => k_is); (case s => decide); (case v => exact (.cons ⟨_, rfl⟩ (.cons ⟨_, rfl⟩ .nil))))
    (case t_ALL_THREE => refine' Ck.tup_mk KX G ?z ?l ?s ?v; (case z => k_is); (case l => k_is); (case s => decide); (case v => exact (.cons ⟨_, rfl⟩ (.cons ⟨_, rfl⟩ (.cons ⟨_, rfl⟩ .nil)))))
    (case b_len => refine' PySem.W.mg_none_of KX G ?z; (case z => k_is))
    (case b_sum => refine' PySem.W.mg_none_of KX G ?z; (case z => k_is))
    (case b_max => refine' PySem.W.mg_none_of KX G ?z; (case z => k_is))
    (case b_list => refine' PySem.W.mg_none_of KX G ?z; (case z => k_is))
    (case d_common_divisor => refine' Ck.df_mk KX G ?a ?l ?c ?k Ck.bd_common_divisor; (case a => k_is); (case l => k_is); (case c => k_is); (case k => k_is))
    (case d_lowest => refine' Ck.df_mk KX G ?a ?l ?c ?k Ck.bd_lowest; (case a => k_is); (case l => k_is); (case c => k_is); (case k => k_is))
    (case d_added => refine' Ck.df_mk KX G ?a ?l ?c ?k Ck.bd_added; (case a => k_is); (case l => k_is); (case c => k_is); (case k => k_is))
    (case d_less => refine' Ck.df_mk KX G ?a ?l ?c ?k Ck.bd_less; (case a => k_is); (case l => k_is); (case c => k_is); (case k => k_is))
    (case d_is_up_to => refine' Ck.df_mk KX G ?a ?l ?c ?k Ck.bd_is_up_to; (case a => k_is); (case l => k_is); (case c => k_is); (case k => k_is))
    (case d_is_place => refine' Ck.df_mk KX G ?a ?l ?c ?k Ck.bd_is_place; (case a => k_is); (case l => k_is); (case c => k_is); (case k => k_is))
    (case d_is_within => refine' Ck.df_mk KX G ?a ?l ?c ?k Ck.bd_is_within; (case a => k_is); (case l => k_is); (case c => k_is); (case k => k_is))
    (case d_may_cut => refine' Ck.df_mk KX G ?a ?l ?c ?k Ck.bd_may_cut; (case a => k_is); (case l => k_is); (case c => k_is); (case k => k_is))
    (case d_may_trim => refine' Ck.df_mk KX G ?a ?l ?c ?k Ck.bd_may_trim; (case a => k_is); (case l => k_is); (case c => k_is); (case k => k_is))
    (case d_cut_in_three => refine' Ck.df_mk KX G ?a ?l ?c ?k Ck.bd_cut_in_three; (case a => k_is); (case l => k_is); (case c => k_is); (case k => k_is))
    (case d_third_of => refine' Ck.df_mk KX G ?a ?l ?c ?k Ck.bd_third_of; (case a => k_is); (case l => k_is); (case c => k_is); (case k => k_is))
    (case d_mark => refine' Ck.df_mk KX G ?a ?l ?c ?k Ck.bd_mark; (case a => k_is); (case l => k_is); (case c => k_is); (case k => k_is))
    (case d_stretch_worth => refine' Ck.df_mk KX G ?a ?l ?c ?k Ck.bd_stretch_worth; (case a => k_is); (case l => k_is); (case c => k_is); (case k => k_is))
    (case d_first_place_with => refine' Ck.df_mk KX G ?a ?l ?c ?k Ck.bd_first_place_with; (case a => k_is); (case l => k_is); (case c => k_is); (case k => k_is))
    (case d_thirds => refine' Ck.df_mk KX G ?a ?l ?c ?k Ck.bd_thirds; (case a => k_is); (case l => k_is); (case c => k_is); (case k => k_is))
    (case d_worth_most => refine' Ck.df_mk KX G ?a ?l ?c ?k Ck.bd_worth_most; (case a => k_is); (case l => k_is); (case c => k_is); (case k => k_is))
    (case d_trim_advised => refine' Ck.df_mk KX G ?a ?l ?c ?k Ck.bd_trim_advised; (case a => k_is); (case l => k_is); (case c => k_is); (case k => k_is))
    (case d_advice => refine' Ck.df_mk KX G ?a ?l ?c ?k Ck.bd_advice; (case a => k_is); (case l => k_is); (case c => k_is); (case k => k_is))
    (case m_begin => refine' Ck.dm_mk ?a ?i ?l ?c ?k Ck.bm_begin; (case a => k_is); (case i => k_is); (case l => k_is); (case c => k_is); (case k => k_is))
    (case m_start => refine' Ck.dm_mk ?a ?i ?l ?c ?k Ck.bm_start; (case a => k_is); (case i => k_is); (case l => k_is); (case c => k_is); (case k => k_is))
    (case m_holder => refine' Ck.dm_mk ?a ?i ?l ?c ?k Ck.bm_holder; (case a => k_is); (case i => k_is); (case l => k_is); (case c => k_is); (case k => k_is))
    (case m_parter => refine' Ck.dm_mk ?a ?i ?l ?c ?k Ck.bm_parter; (case a => k_is); (case i => k_is); (case l => k_is); (case c => k_is); (case k => k_is))
    (case m_person => refine' Ck.dm_mk ?a ?i ?l ?c ?k Ck.bm_person; (case a => k_is); (case i => k_is); (case l => k_is); (case c => k_is); (case k => k_is))
    (case m_turn => refine' Ck.dm_mk ?a ?i ?l ?c ?k Ck.bm_turn; (case a => k_is); (case i => k_is); (case l => k_is); (case c => k_is); (case k => k_is))
    (case m_choices => refine' Ck.dm_mk ?a ?i ?l ?c ?k Ck.bm_choices; (case a => k_is); (case i => k_is); (case l => k_is); (case c => k_is); (case k => k_is))
    (case m_may_say => refine' Ck.dm_mk ?a ?i ?l ?c ?k Ck.bm_may_say; (case a => k_is); (case i => k_is); (case l => k_is); (case c => k_is); (case k => k_is))
    (case m_say => refine' Ck.dm_mk ?a ?i ?l ?c ?k Ck.bm_say; (case a => k_is); (case i => k_is); (case l => k_is); (case c => k_is); (case k => k_is))
    (case m_trim => refine' Ck.dm_mk ?a ?i ?l ?c ?k Ck.bm_trim; (case a => k_is); (case i => k_is); (case l => k_is); (case c => k_is); (case k => k_is))
    (case m_choose => refine' Ck.dm_mk ?a ?i ?l ?c ?k Ck.bm_choose; (case a => k_is); (case i => k_is); (case l => k_is); (case c => k_is); (case k => k_is))
    (case m_end_without_trimmings => refine' Ck.dm_mk ?a ?i ?l ?c ?k Ck.bm_end_without_trimmings; (case a => k_is); (case i => k_is); (case l => k_is); (case c => k_is); (case k => k_is))
    (case m_fits => refine' Ck.dm_mk ?a ?i ?l ?c ?k Ck.bm_fits; (case a => k_is); (case i => k_is); (case l => k_is); (case c => k_is); (case k => k_is))
    (case m_advise => refine' Ck.dm_mk ?a ?i ?l ?c ?k Ck.bm_advise; (case a => k_is); (case i => k_is); (case l => k_is); (case c => k_is); (case k => k_is))
    (case m_share => refine' Ck.dm_mk ?a ?i ?l ?c ?k Ck.bm_share; (case a => k_is); (case i => k_is); (case l => k_is); (case c => k_is); (case k => k_is))
    (case d_call_length => refine' Ck.df_mk KX G ?a ?l ?c ?k Ck.bd_call_length; (case a => k_is); (case l => k_is); (case c => k_is); (case k => k_is))
    (case d_answer => refine' Ck.df_mk KX G ?a ?l ?c ?k Ck.bd_answer; (case a => k_is); (case l => k_is); (case c => k_is); (case k => k_is))
    (case d_answers => refine' Ck.df_mk KX G ?a ?l ?c ?k Ck.bd_answers; (case a => k_is); (case l => k_is); (case c => k_is); (case k => k_is))
    (case d_init => refine' Ck.di_mk ?mk ?a ?i ?kc ?l ?c ?k Ck.bm___init__; (case a => k_is); (case mk => k_is); (case i => k_is); (case kc => k_is); (case l => k_is); (case c => k_is); (case k => k_is))
    (case n_cake => refine' Ck.no_mk ?z; (case z => k_is))
    (case n_cells => refine' Ck.no_mk ?z; (case z => k_is))
    (case n_stage => refine' Ck.no_mk ?z; (case z => k_is))
    (case n_pieces => refine' Ck.no_mk ?z; (case z => k_is))
    (case n_piece_of => refine' Ck.no_mk ?z; (case z => k_is))
    (case n_trimmed => refine' Ck.no_mk ?z; (case z => k_is))
    (case n_trimmings => refine' Ck.no_mk ?z; (case z => k_is))
    (case n_parts => refine' Ck.no_mk ?z; (case z => k_is))
    (case n_part_of => refine' Ck.no_mk ?z; (case z => k_is))
  case S =>
    intro K H xs a hO hwi hask hx
    cases hx with
    | cons h1 h2 =>
      cases h2
      cases h1 with
      | lst hs ha =>
        have e := L2.ints_dw a.1 _ ha
        subst e
        exact ⟨_, a.1, rfl, hs, hask, fun H' p hp => .lst (L2.SqL.of hp) (L2.dw_ints _)⟩
#print axioms PySem.Challenge.cw_cakeshares_s01_answers_holds

